"""What a table does: DOC.md, waybook/table.py and points 1 to 10."""

import itertools
import random
import unittest

import plain
from plain import HUGE, WIDTHS, PlainTable
from waybook.table import Table

EIGHT = [(0,), (1, 0), (2, 1), (0, 1, 2), (2,), (1, 2, 0), (0, 2), (1,)]


def table_of(rows, orders=()):
    table = Table(len(rows[0]))
    for row in rows:
        table.put(row)
    for order in orders:
        table.tell(order)
    return table


class Rows(unittest.TestCase):
    def test_the_arguments_have_their_names(self):
        table = Table(width=2)
        self.assertEqual(table.put(row=[1, 2]), 0)
        self.assertIsNone(table.change(number=0, column=1, value=3))
        self.assertEqual(table.row(number=0), (1, 3))
        self.assertIsNone(table.tell(order=(1,)))
        self.assertEqual(table.listed(order=(1,)), [0])
        wish = [(1, 3, 3)]
        self.assertEqual(table.costs(wish=wish), [(None, 1), ((1,), 1)])
        self.assertEqual(table.plan(wish=wish), (None, 1))
        self.assertEqual(table.walked(way=(1,), wish=wish), [0])
        self.assertEqual(table.ask_by(way=None, wish=wish), [0])
        self.assertEqual(table.ask(wish=wish), [0])
        self.assertIsNone(table.forget(order=(1,)))
        self.assertIsNone(table.drop(number=0))

    def test_a_new_table(self):
        for width in WIDTHS:
            table = Table(width)
            self.assertEqual((table.width, table.numbers(), table.orders()), (width, [], []))
            self.assertIn("width", vars(table))
            self.assertEqual(table.costs([]), [(None, 0)])
            self.assertEqual(table.plan([(0, 1, 1)]), (None, 0))
            self.assertEqual(table.walked(None, []), [])
            self.assertEqual(table.ask([(width - 1, None, None)]), [])

    def test_numbers_rise_from_nought(self):
        table = Table(1)
        for number in range(200):
            given = table.put([-number])
            self.assertEqual((type(given), given), (int, number))
        self.assertEqual(table.numbers(), list(range(200)))

    def test_a_number_is_never_given_again(self):
        table = table_of([[1], [2], [3]])
        table.drop(2)
        self.assertEqual(table.put([3]), 3)
        table.drop(3)
        table.drop(0)
        self.assertEqual(table.put([3]), 4)
        for number in table.numbers():
            table.drop(number)
        self.assertEqual(table.numbers(), [])
        self.assertEqual(table.put([1]), 5)
        self.assertEqual(table.numbers(), [5])

    def test_far_more_rows_in_all_than_are_there_at_once(self):
        table = Table(1)
        table.tell((0,))
        for number in range(1000):
            self.assertEqual(table.put([number % 3]), number)
            if number >= 200 - 1:
                table.drop(number - 199)
        self.assertEqual(table.numbers(), list(range(801, 1000)))

    def test_a_row_is_told_as_a_tuple(self):
        for width in WIDTHS:
            row = [HUGE ** at - 1 - at for at in range(width)]
            table = Table(width)
            for kind in [list, tuple]:
                found = table.row(table.put(kind(row)))
                self.assertIs(type(found), tuple)
                self.assertEqual(found, tuple(row))

    def test_a_changed_row_keeps_its_number(self):
        for width in WIDTHS:
            table = table_of([[5] * width] * 3)
            for column in range(width):
                for value in [-HUGE, 0, 5, column, HUGE]:
                    self.assertIsNone(table.change(1, column, value))
                    self.assertEqual(table.row(1)[column], value)
                    self.assertEqual(table.numbers(), [0, 1, 2])
            self.assertEqual(table.row(1), (HUGE,) * width)
            self.assertEqual((table.row(0), table.row(2)), ((5,) * width, (5,) * width))
            self.assertEqual(table.put([1] * width), 3)

    def test_a_change_is_of_that_column_alone(self):
        table = table_of([[1, 2, 3]])
        table.change(0, 1, 9)
        self.assertEqual(table.row(0), (1, 9, 3))
        table.change(0, 0, 8)
        self.assertEqual(table.row(0), (8, 9, 3))
        table.change(0, 2, 7)
        self.assertEqual(table.row(0), (8, 9, 7))

    def test_a_change_to_what_stands_there_already(self):
        table = table_of([[1, 2], [1, 2], [1, 2]], [(0,)])
        table.change(1, 0, 1)
        self.assertEqual(table.row(1), (1, 2))
        self.assertEqual(table.listed((0,)), [0, 1, 2])

    def test_dropping_takes_that_row_alone(self):
        table = table_of([[1], [1], [1]], [(0,)])
        self.assertIsNone(table.drop(1))
        self.assertEqual((table.numbers(), table.listed((0,)), table.ask([])), ([0, 2], [0, 2], [0, 2]))


class Orders(unittest.TestCase):
    def test_orders_as_they_were_told(self):
        table = Table(3)
        for many, order in enumerate(EIGHT):
            self.assertEqual(table.orders(), EIGHT[:many])
            self.assertIsNone(table.tell(order))
        self.assertEqual(table.orders(), EIGHT)
        self.assertTrue(all(type(order) is tuple for order in table.orders()))
        self.assertIsNone(table.forget((0, 1, 2)))
        self.assertIsNone(table.forget((0,)))
        table.tell((0,))
        self.assertEqual(table.orders(), [(1, 0), (2, 1), (2,), (1, 2, 0), (0, 2), (1,), (0,)])

    def test_told_ahead_of_rows_and_behind_them(self):
        rows = [[2, 1, 0], [1, 1, 1], [0, 1, 2], [2, 1, 0]]
        expected = {(0,): [2, 1, 0, 3], (1,): [0, 1, 2, 3], (2,): [0, 3, 1, 2], (1, 2): [0, 3, 1, 2],
                    (1, 0): [2, 1, 0, 3], (2, 0, 1): [0, 3, 1, 2]}
        for order in expected:
            ahead, behind = Table(3), table_of(rows)
            ahead.tell(order)
            for row in rows:
                ahead.put(row)
            behind.tell(order)
            self.assertEqual(ahead.listed(order), expected[order])
            self.assertEqual(behind.listed(order), expected[order])

    def test_listed_holds_all_numbers_whatever_is_done(self):
        table = table_of([[3, 0], [1, 0], [2, 0]], [(0,), (1, 0)])
        table.put([0, 5])
        self.assertEqual(table.listed((0,)), [3, 1, 2, 0])
        self.assertEqual(table.listed((1, 0)), [1, 2, 0, 3])
        table.change(1, 0, 7)
        self.assertEqual(table.listed((0,)), [3, 2, 0, 1])
        self.assertEqual(table.listed((1, 0)), [2, 0, 1, 3])
        table.change(3, 1, -5)
        self.assertEqual(table.listed((1, 0)), [3, 2, 0, 1])
        table.drop(2)
        self.assertEqual(table.listed((0,)), [3, 0, 1])
        self.assertEqual(table.listed((1, 0)), [3, 0, 1])

    def test_told_again_behind_being_forgotten(self):
        table = table_of([[3], [1]], [(0,)])
        table.forget((0,))
        table.put([2])
        table.drop(1)
        table.tell((0,))
        self.assertEqual(table.listed((0,)), [2, 0])

    def test_forgetting_one_leaves_the_others(self):
        for gone in EIGHT:
            table = table_of([[1, 2, 3], [3, 2, 1], [2, 2, 2]], EIGHT)
            before = {order: table.listed(order) for order in EIGHT}
            table.forget(gone)
            left = [order for order in EIGHT if order != gone]
            self.assertEqual(table.orders(), left)
            self.assertEqual([table.listed(order) for order in left], [before[order] for order in left])


class Costs(unittest.TestCase):
    ROWS = [list(row) for row in itertools.product([0, 1, 2], repeat=3)]

    def test_walking_all_costs_the_rows_there(self):
        table = table_of(self.ROWS)
        for wish in [[], [(0, 1, 1)], [(0, 9, 1)]]:
            self.assertEqual(table.costs(wish), [(None, 27)])
            self.assertEqual(table.plan(wish), (None, 27))
        table.drop(5)
        self.assertEqual(table.costs([]), [(None, 26)])

    def test_an_order_costs_its_stretch_where_it_covers_and_twice_that_where_not(self):
        table = table_of(self.ROWS, [(0, 1), (1,), (2, 0)])
        self.assertEqual(table.costs([(0, 1, 1)]), [(None, 27), ((0, 1), 9), ((1,), 54), ((2, 0), 27)])
        self.assertEqual(table.costs([(0, 1, 1), (1, 0, 1)]), [(None, 27), ((0, 1), 6), ((1,), 36), ((2, 0), 54)])
        self.assertEqual(table.costs([(2, 1, 1), (0, 0, 0)]), [(None, 27), ((0, 1), 18), ((1,), 54), ((2, 0), 3)])
        self.assertEqual(table.costs([(2, 5, 5), (0, 0, 0)]), [(None, 27), ((0, 1), 18), ((1,), 54), ((2, 0), 0)])
        self.assertEqual(table.costs([]), [(None, 27), ((0, 1), 27), ((1,), 27), ((2, 0), 27)])
        self.assertEqual(table.costs([(1, None, None)]), [(None, 27), ((0, 1), 27), ((1,), 27), ((2, 0), 54)])

    def test_costs_are_pairs_in_a_list(self):
        table = table_of(self.ROWS, [(0, 1), (1,)])
        told = table.costs([(1, 1, 1)])
        self.assertIs(type(told), list)
        self.assertTrue(all(type(pair) is tuple and len(pair) == 2 and type(pair[1]) is int for pair in told))
        self.assertIs(type(table.plan([(1, 1, 1)])), tuple)

    def test_costs_stand_as_the_orders_were_told(self):
        table = table_of(self.ROWS, EIGHT)
        self.assertEqual([way for way, _ in table.costs([])], [None] + EIGHT)
        table.forget((1, 0))
        table.tell((1, 0))
        self.assertEqual([way for way, _ in table.costs([])], [None, EIGHT[0]] + EIGHT[2:] + [(1, 0)])

    def test_the_least_cost_is_chosen(self):
        table = table_of(self.ROWS, [(2,), (0,), (0, 1), (1, 0, 2)])
        self.assertEqual(table.plan([(0, 1, 1), (1, 1, 1)]), ((0, 1), 3))
        self.assertEqual(table.plan([(0, 1, 1), (1, 1, 1), (2, 1, 1)]), ((1, 0, 2), 1))
        self.assertEqual(table.plan([(2, 1, 1)]), ((2,), 9))

    def test_walking_all_comes_first_of_ways_that_cost_alike(self):
        table = table_of(self.ROWS, [(0,), (1, 0)])
        self.assertEqual(table.plan([]), (None, 27))
        self.assertEqual(table.plan([(0, 0, 2)]), (None, 27))
        table = table_of([[0, 0], [0, 1], [1, 1], [1, 0]], [(0,)])
        self.assertEqual(table.costs([(0, 1, 1), (1, 1, 1)]), [(None, 4), ((0,), 4)])
        self.assertEqual(table.plan([(0, 1, 1), (1, 1, 1)]), (None, 4))
        self.assertEqual(Table(1).plan([]), (None, 0))

    def test_then_the_order_that_was_told_first_of_those_kept(self):
        orders = [(0, 1), (0, 2), (0,)]
        for told in itertools.permutations(orders):
            table = table_of(self.ROWS, told)
            self.assertEqual(table.plan([(0, 1, 1)]), (told[0], 9))
            table.forget(told[0])
            self.assertEqual(table.plan([(0, 1, 1)]), (told[1], 9))
            table.tell(told[0])
            self.assertEqual(table.plan([(0, 1, 1)]), (told[1], 9))

    def test_orders_without_rows_in_their_stretch_cost_alike(self):
        table = table_of(self.ROWS, [(1, 0), (0, 1)])
        self.assertEqual(table.plan([(0, 7, 7), (1, 7, 7), (2, 0, 0)]), ((1, 0), 0))


class Answers(unittest.TestCase):
    ROWS = [[3, 1], [1, 2], [2, 1], [1, 1], [3, 2], [1, 1]]

    def test_walking_all_looks_at_all_rows_by_their_numbers(self):
        table = table_of(self.ROWS, [(0,)])
        table.drop(1)
        table.change(4, 0, -9)
        for wish in [[], [(0, 1, 1)], [(0, 9, 1)]]:
            self.assertEqual(table.walked(None, wish), [0, 2, 3, 4, 5])

    def test_an_order_looks_at_its_stretch_in_its_order(self):
        table = table_of(self.ROWS, [(0,), (1, 0)])
        self.assertEqual(table.walked((0,), []), [1, 3, 5, 2, 0, 4])
        self.assertEqual(table.walked((0,), [(0, 2, None)]), [2, 0, 4])
        self.assertEqual(table.walked((0,), [(0, 1, 1), (1, 1, 1)]), [1, 3, 5])
        self.assertEqual(table.walked((1, 0), [(0, 2, None)]), [3, 5, 2, 0, 1, 4])
        self.assertEqual(table.walked((1, 0), [(1, 1, 1), (0, 2, None)]), [2, 0])
        self.assertEqual(table.walked((1, 0), [(1, 1, 2), (0, 2, None)]), [3, 5, 2, 0, 1, 4])

    def test_the_answer_is_the_numbers_that_fit_rising(self):
        table = table_of(self.ROWS, [(0,), (1, 0)])
        for wish, expected in [([], [0, 1, 2, 3, 4, 5]), ([(0, 2, None)], [0, 2, 4]), ([(1, None, 1)], [0, 2, 3, 5]),
                               ([(0, 1, 1), (1, 1, 1)], [3, 5]), ([(0, 2, 3), (1, 2, 2)], [4]), ([(0, 3, 2)], []),
                               ([(0, 1, 3), (0, 3, 9)], [0, 4]), ([(0, 7, 7)], [])]:
            for way in [None, (0,), (1, 0)]:
                self.assertEqual(table.ask_by(way, wish), expected, (way, wish))
            self.assertEqual(table.ask(wish), expected)

    def test_the_answers_are_lists(self):
        table = table_of(self.ROWS, [(0,)])
        for told in [table.numbers(), table.orders(), table.listed((0,)), table.costs([]), table.walked(None, []),
                     table.walked((0,), []), table.ask_by(None, []), table.ask_by((0,), []), table.ask([])]:
            self.assertIs(type(told), list)


class Handing(unittest.TestCase):
    """Nothing that is handed in is changed, and nothing that is handed out is the table's own."""

    def test_a_rows_list_may_change_behind_put(self):
        table = Table(2)
        table.tell((0, 1))
        row = [1, 2]
        table.put(row)
        row[0] = 9
        row.append(3)
        table.put([5, 5])
        table.tell((1,))
        self.assertEqual(table.row(0), (1, 2))
        self.assertEqual(table.listed((0, 1)), [0, 1])
        self.assertEqual(table.ask([(0, 1, 1)]), [0])
        self.assertEqual(table.ask_by((0, 1), [(0, 9, 9)]), [])
        table.drop(0)
        self.assertEqual(table.listed((0, 1)), [1])
        self.assertEqual(row, [9, 2, 3])

    def test_one_list_put_again_and_again(self):
        table = Table(1)
        row = [0]
        for number in range(5):
            row[0] = -number
            table.put(row)
        self.assertEqual([table.row(number) for number in range(5)], [(0,), (-1,), (-2,), (-3,), (-4,)])

    def test_what_is_handed_in_stays(self):
        rows = [[3, 1], (1, 2), [2, 2]]
        wish = [(1, 2, None), (0, None, 5), (1, None, 2)]
        order = (1, 0)
        table = table_of(rows, [order])
        table.change(0, 0, 99)
        for _ in range(2):
            self.assertEqual(table.ask(wish), [1, 2])
            table.costs(wish)
            table.plan(wish)
            table.walked(order, wish)
            table.ask_by(order, wish)
        self.assertEqual(rows, [[3, 1], (1, 2), [2, 2]])
        self.assertEqual(wish, [(1, 2, None), (0, None, 5), (1, None, 2)])
        self.assertEqual(order, (1, 0))

    def test_a_wish_may_change_behind_being_asked(self):
        table = table_of([[1, 1], [2, 1], [2, 2]], [(0,)])
        wish = [(0, 1, 1)]
        self.assertEqual((table.ask(wish), table.plan(wish)), ([0], ((0,), 1)))
        wish[0] = (0, 2, 2)
        self.assertEqual((table.ask(wish), table.plan(wish)), ([1, 2], ((0,), 2)))
        wish.append((1, 2, 2))
        self.assertEqual((table.ask(wish), table.plan(wish)), ([2], (None, 3)))

    def test_what_is_handed_out_is_the_callers(self):
        table = table_of([[3, 1], [1, 2], [2, 2]], [(0,), (1, 0)])
        wish = [(0, 1, 3)]
        asked = [table.numbers, table.orders, lambda: table.listed((0,)), lambda: table.costs(wish),
                 lambda: table.walked(None, wish), lambda: table.walked((0,), wish), lambda: table.ask(wish),
                 lambda: table.ask_by(None, wish), lambda: table.ask_by((0,), wish)]
        before = [ask() for ask in asked]
        for ask in asked:
            out = ask()
            out.reverse()
            out.append(7)
            out[0] = None
            ask().clear()
            self.assertEqual([again() for again in asked], before)
        self.assertEqual((table.put([1, 1]), table.numbers()), (3, [0, 1, 2, 3]))

    def test_what_was_handed_out_stays_as_it_was(self):
        table = table_of([[3, 1], [1, 2], [2, 2]], [(0,), (1, 0)])
        wish = [(0, 1, 3)]
        told = [table.numbers(), table.orders(), table.listed((0,)), table.costs(wish), table.walked(None, wish),
                table.walked((0,), wish), table.ask(wish), table.ask_by((0,), wish), table.row(0), table.plan(wish)]
        expected = [[0, 1, 2], [(0,), (1, 0)], [1, 2, 0], [(None, 3), ((0,), 3), ((1, 0), 3)], [0, 1, 2],
                    [1, 2, 0], [0, 1, 2], [0, 1, 2], (3, 1), (None, 3)]
        self.assertEqual(told, expected)
        table.put([0, 0])
        table.change(0, 0, -1)
        table.drop(1)
        table.forget((0,))
        table.tell((1,))
        self.assertEqual(told, expected)


class SideBySide(unittest.TestCase):
    def test_two_tables_do_not_touch_each_other(self):
        one, other = Table(2), Table(2)
        one.put([1, 1])
        one.put([2, 2])
        one.tell((0,))
        self.assertEqual((other.numbers(), other.orders()), ([], []))
        self.assertEqual(other.put([9, 9]), 0)
        other.tell((1,))
        other.tell((0,))
        other.put([8, 8])
        one.drop(0)
        one.change(1, 0, 50)
        one.forget((0,))
        self.assertEqual((one.numbers(), one.row(1), one.orders()), ([1], (50, 2), []))
        self.assertEqual((other.numbers(), other.row(1), other.orders()), ([0, 1], (8, 8), [(1,), (0,)]))
        self.assertEqual((other.listed((0,)), other.listed((1,))), ([1, 0], [1, 0]))
        third = Table(2)
        self.assertEqual((third.numbers(), third.orders(), third.put([1, 1])), ([], [], 0))


class Run:
    """Deeds done to a table and to a plain one, by chance; all that they tell is held beside each other."""

    def __init__(self, case, seed, width):
        self.case = case
        self.chance = random.Random(seed)
        self.width = width
        self.table = Table(width)
        self.plain = PlainTable(width)
        self.chosen = []

    def both(self, deed, *told):
        self.case.assertEqual(getattr(self.table, deed)(*told), getattr(self.plain, deed)(*told), (deed, told))

    def some_deed(self, puts):
        kind = self.chance.random()
        numbers, orders = self.plain.numbers(), self.plain.orders()
        if kind < puts and len(numbers) < 200:
            row = plain.some_row(self.chance, self.width)
            row_before = row[:]
            self.both("put", row)
            self.case.assertEqual(row, row_before)
        elif kind < 0.7 and numbers:
            column = self.chance.randrange(self.width)
            self.both("change", self.chance.choice(numbers), column, plain.some_number(self.chance))
        elif kind < 0.8 and numbers:
            self.both("drop", self.chance.choice([numbers[-1], self.chance.choice(numbers)]))
        elif kind < 0.85 and orders:
            self.both("forget", self.chance.choice(orders))
        else:
            order = plain.some_order(self.chance, self.width)
            if order not in orders and len(orders) < 8:
                self.both("tell", order)

    def assert_alike(self):
        self.both("numbers")
        self.both("orders")
        for number in self.plain.numbers():
            self.both("row", number)
        for order in self.plain.orders():
            self.both("listed", order)

    def assert_wish(self):
        wish = plain.some_wish(self.chance, self.width)
        wish_before = list(wish)
        answer = self.plain.ask(wish)
        asked = [lambda: self.both("costs", wish), lambda: self.both("plan", wish), lambda: self.both("ask", wish)]
        for way in [None] + self.plain.orders():
            asked.append(lambda way=way: self.both("walked", way, wish))
            asked.append(lambda way=way: self.case.assertEqual(self.table.ask_by(way, wish), answer))
        # Whichever is asked first, and some of it twice.
        self.chance.shuffle(asked)
        for ask in asked + asked[:3]:
            ask()
        self.case.assertEqual(wish, wish_before)
        self.assert_counts(wish)

    def assert_counts(self, wish):
        """Each count that is told is the number of rows that the way looks at, or twice that."""
        for way, cost in self.table.costs(wish):
            many = len(self.table.walked(way, wish))
            covers = way is None or {column for column, _, _ in wish} <= set(way)
            self.case.assertEqual(cost, many if covers else 2 * many)
        self.chosen.append(self.table.plan(wish)[0])


class LongRuns(unittest.TestCase):
    def test_small_tables_of_each_width(self):
        chosen = []
        for seed in range(24):
            run = Run(self, seed, WIDTHS[seed % 6])
            for _ in range(80):
                run.some_deed(0.4)
                run.assert_alike()
                run.assert_wish()
            chosen += run.chosen
        # The runs would show little if nearly all of the wishes were answered by walking all.
        self.assertGreater(len([way for way in chosen if way is not None]), len(chosen) // 4)

    def test_up_to_two_hundred_rows_and_eight_orders(self):
        for seed, width in [(100, 1), (101, 3), (102, 6)]:
            run = Run(self, seed, width)
            for at in range(600):
                run.some_deed(0.65 if at < 450 else 0.1)
                if at % 30 == 29:
                    run.assert_alike()
                    run.assert_wish()
            self.assertGreater(run.plain.many, 200)

    def test_a_full_table_with_eight_orders(self):
        run = Run(self, 200, 4)
        for at in range(200):
            run.both("put", plain.some_row(run.chance, 4))
            if at % 25 == 24:
                order = plain.some_order(run.chance, 4)
                while order in run.plain.orders():
                    order = plain.some_order(run.chance, 4)
                run.both("tell", order)
        self.assertEqual((len(run.table.numbers()), len(run.table.orders())), (200, 8))
        for _ in range(12):
            run.assert_wish()
        run.assert_alike()

    def test_costs_do_not_hang_on_what_was_asked_ahead(self):
        rows = [[at % 3, at % 5, at % 2] for at in range(40)]
        wish = [(0, 1, 1), (1, 2, 3)]
        deeds = {"costs": lambda table: table.costs(wish), "plan": lambda table: table.plan(wish),
                 "walked": lambda table: [table.walked(way, wish) for way in [None] + EIGHT],
                 "ask": lambda table: table.ask(wish)}
        expected = {name: deeds[name](table_of(rows, EIGHT)) for name in deeds}
        for told in itertools.permutations(deeds):
            table = table_of(rows, EIGHT)
            for name in told + told:
                self.assertEqual(deeds[name](table), expected[name], (name, told))


if __name__ == "__main__":
    unittest.main()
