"""Orders that are kept: DOC.md, waybook/orders.py and points 6, 7 and 8."""

import itertools
import random
import unittest

import plain
from plain import HUGE, PlainTable
from waybook.orders import Kept

ORDERS = [(0,), (1,), (0, 1), (1, 0), (2, 0), (0, 1, 2), (2, 1, 0), (1, 3, 0), (3, 1, 0, 2), (4, 0, 3, 1, 2),
          (0, 1, 2, 3, 4, 5), (5, 4, 3, 2, 1, 0), (2, 5, 0, 4, 1, 3)]


class Pair:
    """A kept order beside a plain table; each deed is done to both."""

    def __init__(self, case, columns):
        self.case = case
        self.columns = columns
        self.kept = Kept(columns)
        self.plain = PlainTable(6)

    def put(self, row):
        number = self.plain.put(row)
        self.case.assertIsNone(self.kept.put(number, row))
        return number

    def drop(self, number, kind=tuple):
        row = self.plain.row(number)
        self.plain.drop(number)
        self.case.assertIsNone(self.kept.drop(number, kind(row)))

    def change(self, number, column, value):
        self.kept.drop(number, self.plain.row(number))
        self.plain.change(number, column, value)
        self.kept.put(number, self.plain.row(number))

    def assert_numbers(self):
        found = self.kept.numbers()
        self.case.assertIs(type(found), list)
        self.case.assertEqual(found, self.plain.listed(self.columns))

    def assert_wish(self, wish):
        wish_before = list(wish)
        found = self.kept.stretch(wish)
        self.case.assertIs(type(found), list)
        self.case.assertEqual(found, self.plain.walked(self.columns, wish), (self.columns, wish))
        self.case.assertIs(self.kept.covers(wish), self.plain.covers(self.columns, wish), (self.columns, wish))
        self.case.assertEqual(wish, wish_before)
        return found


def grid(columns, numbers):
    """A kept order over a row for each choice of three of the numbers."""
    kept = Kept(columns)
    rows = list(itertools.product(numbers, repeat=3))
    for number, row in enumerate(rows):
        kept.put(number, row)
    return kept, rows


class Columns(unittest.TestCase):
    def test_columns_is_the_tuple_that_it_was_made_with(self):
        for columns in ORDERS:
            kept = Kept(columns)
            self.assertIs(type(kept.columns), tuple)
            self.assertEqual(kept.columns, columns)
            self.assertIn("columns", vars(kept))

    def test_the_arguments_have_their_names(self):
        kept = Kept(columns=(0,))
        kept.put(number=4, row=[1])
        self.assertEqual(kept.stretch(wish=[(0, 1, 1)]), [4])
        self.assertIs(kept.covers(wish=[(0, 1, 1)]), True)
        kept.drop(number=4, row=[1])
        self.assertEqual(kept.numbers(), [])

    def test_columns_stay_whatever_is_done(self):
        kept = Kept((1, 0))
        kept.put(0, [1, 2])
        kept.stretch([(0, 1, 1)])
        kept.drop(0, [1, 2])
        self.assertEqual(kept.columns, (1, 0))


class Numbers(unittest.TestCase):
    def test_without_rows_at_first(self):
        for columns in ORDERS:
            kept = Kept(columns)
            self.assertEqual(kept.numbers(), [])
            self.assertEqual(kept.stretch([]), [])
            self.assertEqual(kept.stretch([(columns[0], 1, 1)]), [])
            self.assertIs(kept.covers([]), True)

    def test_the_least_first(self):
        kept = Kept((0,))
        for number, thing in enumerate([5, -5, 0, HUGE, -HUGE, 10, 9]):
            kept.put(number, [thing])
        self.assertEqual(kept.numbers(), [4, 1, 2, 0, 6, 5, 3])

    def test_alike_ones_by_the_second_column_and_so_on(self):
        kept = Kept((2, 0, 1))
        for number, row in enumerate([[1, 2, 3], [1, 1, 3], [0, 9, 3], [9, 9, 2]]):
            kept.put(number, row)
        self.assertEqual(kept.numbers(), [3, 2, 1, 0])

    def test_a_column_that_is_none_of_the_orders_does_not_count(self):
        kept = Kept((1,))
        for number, row in enumerate([[9, 1, 9], [0, 1, 0], [5, 0, 5], [-9, 1, -9]]):
            kept.put(number, row)
        self.assertEqual(kept.numbers(), [2, 0, 1, 3])

    def test_rows_that_are_alike_stand_by_their_numbers(self):
        for told in itertools.permutations(range(5)):
            kept = Kept((0, 1))
            for number in told:
                kept.put(number, (7, 7, number))
            self.assertEqual(kept.numbers(), [0, 1, 2, 3, 4])
            kept.drop(2, [7, 7, 2])
            self.assertEqual(kept.numbers(), [0, 1, 3, 4])
            kept.drop(0, (7, 7, 0))
            self.assertEqual(kept.numbers(), [1, 3, 4])

    def test_numbers_stand_by_their_size_and_not_by_their_digits(self):
        kept = Kept((0,))
        for number in [100, 9, 10, 0, 199]:
            kept.put(number, [1])
        self.assertEqual(kept.numbers(), [0, 9, 10, 100, 199])

    def test_the_rows_list_may_change_behind_put(self):
        kept = Kept((0, 1))
        row = [5, 5]
        kept.put(0, row)
        row[0] = 99
        row.append(1)
        kept.put(1, (6, 0))
        kept.put(2, (5, 6))
        self.assertEqual(kept.numbers(), [0, 2, 1])
        self.assertEqual(kept.stretch([(0, 5, 5)]), [0, 2])
        kept.drop(0, [5, 5])
        self.assertEqual(kept.numbers(), [2, 1])
        self.assertEqual(row, [99, 5, 1])

    def test_rows_that_are_handed_in_stay(self):
        kept = Kept((1, 0))
        rows = [[3, 1], [2, 2], [1, 3]]
        for number, row in enumerate(rows):
            kept.put(number, row)
        kept.drop(1, rows[1])
        self.assertEqual(rows, [[3, 1], [2, 2], [1, 3]])

    def test_lists_that_were_handed_out_are_the_callers(self):
        kept = Kept((0,))
        for number in range(4):
            kept.put(number, [number])
        for handed in [kept.numbers, lambda: kept.stretch([]), lambda: kept.stretch([(0, 0, 3)])]:
            out = handed()
            out.append(9)
            out[0] = 9
            out.reverse()
            self.assertEqual(handed(), [0, 1, 2, 3])
            out = handed()
            kept.put(4, [-1])
            self.assertEqual(out, [0, 1, 2, 3])
            kept.drop(4, [-1])
            self.assertEqual(out, [0, 1, 2, 3])

    def test_numbers_behind_each_deed(self):
        for at, columns in enumerate(ORDERS):
            chance = random.Random(at)
            pair = Pair(self, columns)
            for _ in range(60):
                if pair.plain.rows and chance.random() < 0.4:
                    pair.drop(chance.choice(pair.plain.numbers()), chance.choice([list, tuple]))
                else:
                    pair.put(plain.some_row(chance, 6))
                pair.assert_numbers()

    def test_two_hundred_rows_put_and_dropped_in_any_order(self):
        for columns in [(3,), (1, 4), (5, 4, 3, 2, 1, 0)]:
            chance = random.Random(len(columns))
            pair = Pair(self, columns)
            for _ in range(200):
                pair.put(plain.some_row(chance, 6))
                pair.assert_numbers()
            left = pair.plain.numbers()
            chance.shuffle(left)
            for number in left:
                pair.drop(number)
                pair.assert_numbers()
            self.assertEqual(pair.kept.numbers(), [])

    def test_two_orders_do_not_touch_each_other(self):
        one, other = Kept((0,)), Kept((0,))
        one.put(0, [1])
        self.assertEqual(other.numbers(), [])
        other.put(5, [2])
        self.assertEqual((one.numbers(), other.numbers()), ([0], [5]))


class Stretch(unittest.TestCase):
    def assert_stretch(self, columns, wish, holds):
        """The stretch is the rows for which holds tells so, in the order's order."""
        kept, rows = grid(columns, [0, 1, 2, 3])
        found = kept.stretch(wish)
        expected = [number for number in kept.numbers() if holds(*rows[number])]
        self.assertEqual(found, expected, (columns, wish))
        return found

    def test_no_triple_is_the_whole_order(self):
        self.assertEqual(len(self.assert_stretch((0, 1, 2), [], lambda a, b, c: True)), 64)
        self.assertEqual(len(self.assert_stretch((2,), [], lambda a, b, c: True)), 64)

    def test_a_first_column_of_which_the_wish_does_not_speak(self):
        self.assertEqual(len(self.assert_stretch((0, 1), [(1, 2, 2)], lambda a, b, c: True)), 64)
        self.assertEqual(len(self.assert_stretch((0, 1), [(1, 2, 2), (2, 1, 1)], lambda a, b, c: True)), 64)
        self.assertEqual(len(self.assert_stretch((2,), [(0, 9, 1)], lambda a, b, c: True)), 64)

    def test_pinned_columns_alone(self):
        self.assert_stretch((0, 1, 2), [(0, 1, 1)], lambda a, b, c: a == 1)
        self.assert_stretch((0, 1, 2), [(0, 1, 1), (1, 3, 3)], lambda a, b, c: (a, b) == (1, 3))
        self.assert_stretch((2, 0, 1), [(0, 1, 1), (2, 3, 3)], lambda a, b, c: (a, c) == (1, 3))
        wish = [(0, 1, 1), (1, 0, 0), (2, 3, 3)]
        self.assertEqual(len(self.assert_stretch((2, 0, 1), wish, lambda a, b, c: (a, b, c) == (1, 0, 3))), 1)

    def test_a_column_pinned_to_nought(self):
        self.assert_stretch((0, 1), [(0, 0, 0)], lambda a, b, c: a == 0)
        self.assert_stretch((0, 1), [(0, 0, 0), (1, 0, 0)], lambda a, b, c: a == b == 0)

    def test_all_columns_pinned_with_rows_alike(self):
        kept = Kept((1, 0))
        for number in range(9):
            kept.put(number, [number % 3, 5, number])
        self.assertEqual(kept.stretch([(0, 1, 1), (1, 5, 5)]), [1, 4, 7])
        self.assertEqual(kept.stretch([(0, 1, 1), (1, 5, 5), (2, 4, 4)]), [1, 4, 7])

    def test_a_ranged_column_first(self):
        self.assert_stretch((0, 1), [(0, 1, 2)], lambda a, b, c: 1 <= a <= 2)
        self.assert_stretch((1, 0), [(1, 1, 2)], lambda a, b, c: 1 <= b <= 2)
        self.assert_stretch((0,), [(0, -5, 9)], lambda a, b, c: True)

    def test_a_ranged_column_with_one_end_or_none(self):
        self.assert_stretch((0, 1), [(0, 2, None)], lambda a, b, c: a >= 2)
        self.assert_stretch((0, 1), [(0, None, 2)], lambda a, b, c: a <= 2)
        self.assert_stretch((0, 1), [(0, None, 0)], lambda a, b, c: a == 0)
        self.assert_stretch((0, 1), [(0, None, None)], lambda a, b, c: True)

    def test_pinned_columns_and_a_ranged_one(self):
        pin = (2, 1, 1)
        self.assert_stretch((2, 0, 1), [pin, (0, 1, 2)], lambda a, b, c: c == 1 and 1 <= a <= 2)
        self.assert_stretch((2, 0, 1), [pin, (0, 2, None)], lambda a, b, c: c == 1 and a >= 2)
        self.assert_stretch((2, 0, 1), [pin, (0, None, 2)], lambda a, b, c: c == 1 and a <= 2)
        self.assert_stretch((2, 0, 1), [pin, (0, None, None)], lambda a, b, c: c == 1)
        self.assert_stretch((2, 0, 1), [pin, (0, 3, 3), (1, 1, None)], lambda a, b, c: (c, a) == (1, 3) and b >= 1)

    def test_behind_the_first_column_that_is_not_pinned_nothing_is_looked_at(self):
        self.assert_stretch((0, 1, 2), [(0, 1, 2), (1, 3, 3)], lambda a, b, c: 1 <= a <= 2)
        self.assert_stretch((0, 1, 2), [(0, None, None), (1, 3, 3)], lambda a, b, c: True)
        self.assert_stretch((0, 1, 2), [(0, 1, 1), (2, 3, 3)], lambda a, b, c: a == 1)
        self.assert_stretch((0, 1, 2), [(0, 1, 1), (1, 0, 1), (2, 3, 3)], lambda a, b, c: a == 1 and b <= 1)
        self.assert_stretch((0, 1, 2), [(0, 1, None), (1, 9, 3)], lambda a, b, c: a >= 1)

    def test_a_column_that_is_none_of_the_orders_is_not_looked_at(self):
        self.assert_stretch((0,), [(0, 1, 1), (2, 3, 3)], lambda a, b, c: a == 1)
        self.assert_stretch((0,), [(0, 1, 1), (2, 9, 3)], lambda a, b, c: a == 1)

    def test_ends_that_leave_nothing_between_them(self):
        alone = [[(0, 2, 1)], [(0, 3, 0)], [(0, HUGE, -HUGE)]]
        together = [[(0, 2, None), (0, None, 1)], [(0, 1, 1), (0, 2, 2)]]
        for wish in alone + together:
            self.assertEqual(self.assert_stretch((0, 1), wish, lambda a, b, c: False), [])
            self.assertEqual(self.assert_stretch((0,), wish, lambda a, b, c: False), [])
        self.assertEqual(self.assert_stretch((0, 1), [(0, 1, 1), (1, 2, 1)], lambda a, b, c: False), [])

    def test_several_triples_of_one_column_that_together_pin_it(self):
        for pair in [[(0, None, 2), (0, 2, None)], [(0, 0, 2), (0, 2, 3)], [(0, 2, 3), (0, 2, 2), (0, None, None)]]:
            self.assert_stretch((0, 1), pair, lambda a, b, c: a == 2)
            self.assert_stretch((0, 1), pair + [(1, 1, 2)], lambda a, b, c: a == 2 and 1 <= b <= 2)
            self.assert_stretch((0, 1), [(1, 1, 2)] + pair, lambda a, b, c: a == 2 and 1 <= b <= 2)

    def test_pinned_numbers_that_no_row_has(self):
        for pin in [-HUGE, -1, 4, HUGE]:
            self.assertEqual(self.assert_stretch((0, 1), [(0, pin, pin)], lambda a, b, c: False), [])
            self.assertEqual(self.assert_stretch((0, 1), [(0, 1, 1), (1, pin, pin)], lambda a, b, c: False), [])
        kept = Kept((0, 1))
        kept.put(0, [1, 1])
        kept.put(1, [3, 3])
        self.assertEqual(kept.stretch([(0, 2, 2)]), [])
        self.assertEqual(kept.stretch([(0, 1, 1), (1, 2, 2)]), [])

    def test_numbers_of_any_size(self):
        kept = Kept((0,))
        for number, thing in enumerate([HUGE, HUGE + 1, -HUGE, -HUGE - 1, 0, HUGE ** 2, -HUGE ** 2]):
            kept.put(number, [thing])
        self.assertEqual(kept.stretch([(0, HUGE, HUGE)]), [0])
        self.assertEqual(kept.stretch([(0, HUGE, HUGE + 1)]), [0, 1])
        self.assertEqual(kept.stretch([(0, None, -HUGE)]), [6, 3, 2])
        self.assertEqual(kept.stretch([(0, HUGE + 2, None)]), [5])

    def test_a_row_number_is_no_column(self):
        """A pinned number, an end and a row's number that are alike are not taken for each other."""
        kept = Kept((0,))
        for number in range(6):
            kept.put(number, [1])
        self.assertEqual(kept.stretch([(0, 1, 1)]), [0, 1, 2, 3, 4, 5])
        self.assertEqual(kept.stretch([(0, 1, 1), (1, 3, 3)]), [0, 1, 2, 3, 4, 5])

    def test_twenty_triples(self):
        wish = [(at % 3, -at, 9 - at // 3) for at in range(18)]
        self.assert_stretch((0, 1, 2), wish + [(0, 1, 1), (1, None, 2)], lambda a, b, c: a == 1 and b <= 2)
        self.assert_stretch((1, 2), wish + [(1, 3, None), (1, None, 3)], lambda a, b, c: b == 3)

    def test_the_same_list_asked_again_behind_a_change_of_it(self):
        kept, rows = grid((0, 1), [0, 1, 2])
        wish = [(0, 1, 1)]
        self.assertEqual([rows[number][0] for number in kept.stretch(wish)], [1] * 9)
        wish[0] = (0, 2, 2)
        self.assertEqual([rows[number][0] for number in kept.stretch(wish)], [2] * 9)
        self.assertIs(kept.covers(wish), True)
        wish.append((2, 0, 0))
        self.assertIs(kept.covers(wish), False)
        wish.append((1, 0, 0))
        self.assertEqual([rows[number][:2] for number in kept.stretch(wish)], [(2, 0)] * 3)
        wish.clear()
        self.assertEqual(kept.stretch(wish), kept.numbers())
        self.assertIs(kept.covers(wish), True)

    def test_the_same_wish_asked_again_behind_deeds(self):
        kept = Kept((0,))
        wish = [(0, 1, 2)]
        kept.put(0, [1])
        self.assertEqual(kept.stretch(wish), [0])
        kept.put(1, [2])
        self.assertEqual(kept.stretch(wish), [0, 1])
        kept.drop(0, [1])
        self.assertEqual(kept.stretch(wish), [1])
        self.assertEqual(wish, [(0, 1, 2)])

    def test_the_wish_stays(self):
        kept, _ = grid((1, 0), [0, 1])
        wish = [(1, 0, 0), (0, None, 1), (1, None, 5)]
        kept.stretch(wish)
        kept.covers(wish)
        self.assertEqual(wish, [(1, 0, 0), (0, None, 1), (1, None, 5)])

    def test_every_pair_of_triples_of_few_numbers(self):
        ends = [None, 0, 1, 2]
        triples = list(itertools.product([0, 1, 2], ends, ends))
        for columns in [(0,), (1, 0), (2, 0, 1)]:
            pair = Pair(self, columns)
            for row in itertools.product([0, 1], repeat=3):
                pair.put(row + (0, 0, 0))
            for one, other in itertools.combinations_with_replacement(triples, 2):
                pair.assert_wish([one, other])

    def test_many_wishes_over_many_rows(self):
        sizes = []
        for at, columns in enumerate(ORDERS):
            chance = random.Random(100 + at)
            pair = Pair(self, columns)
            for _ in range(chance.choice([10, 60, 90])):
                pair.put([chance.randrange(-1, 2) for _ in range(6)])
            for _ in range(60):
                sizes.append(len(pair.assert_wish(plain.some_wish(chance, 6))))
                pair.change(chance.choice(pair.plain.numbers()), chance.randrange(6), chance.randrange(-1, 2))
        # The wishes would show little if nearly all of their stretches were empty.
        self.assertGreater(len([size for size in sizes if 0 < size < 60]), 100)


class Covers(unittest.TestCase):
    def assert_covers(self, columns, wish, expected):
        wish_before = list(wish)
        self.assertIs(Kept(columns).covers(wish), expected, (columns, wish))
        self.assertEqual(wish, wish_before)

    def test_every_order_covers_the_wish_without_triples(self):
        for columns in ORDERS:
            self.assert_covers(columns, [], True)

    def test_each_column_of_the_wish_has_to_be_one_of_the_orders(self):
        self.assert_covers((1, 3), [(1, 0, 0)], True)
        self.assert_covers((1, 3), [(3, 0, 0)], True)
        self.assert_covers((1, 3), [(3, 0, 5), (1, None, 2), (3, 1, 1)], True)
        self.assert_covers((1, 3), [(0, 0, 0)], False)
        self.assert_covers((1, 3), [(2, 0, 0), (1, 0, 0)], False)
        self.assert_covers((1, 3), [(1, 0, 0), (3, 1, 1), (4, 0, 0)], False)

    def test_a_triple_without_ends_speaks_of_its_column(self):
        self.assert_covers((1,), [(1, None, None)], True)
        self.assert_covers((1,), [(0, None, None)], False)
        self.assert_covers((1,), [(1, 0, 0), (2, None, None)], False)

    def test_a_column_behind_the_ranged_one_is_covered(self):
        self.assert_covers((0, 1, 2), [(0, 1, 5), (2, 3, 3)], True)
        self.assert_covers((0, 1, 2), [(2, 3, 3)], True)

    def test_ends_that_leave_nothing_between_them_do_not_matter(self):
        self.assert_covers((0,), [(0, 5, 1)], True)
        self.assert_covers((0,), [(0, 5, 1), (1, 5, 1)], False)

    def test_twenty_triples(self):
        self.assert_covers((0, 1, 2), [(at % 3, 0, 0) for at in range(20)], True)
        for place in [0, 10, 19]:
            wish = [(at % 3, 0, 0) for at in range(20)]
            wish[place] = (3, 0, 0)
            self.assert_covers((0, 1, 2), wish, False)

    def test_it_does_not_hang_on_the_rows(self):
        kept, _ = grid((0, 1), [0, 1])
        self.assertIs(kept.covers([(0, 7, 7)]), True)
        self.assertIs(kept.covers([(2, 0, 0)]), False)


if __name__ == "__main__":
    unittest.main()
