"""What a table refuses, and that a refusal changes nothing: DOC.md, points 1 to 4, 6 and 9."""

import copy
import unittest

import plain
from plain import HUGE, NO_ENDS, NO_NUMBERS, WIDTHS
from waybook import errors
from waybook.errors import BadColumn, BadOrder, BadRow, BadWidth, BadWish, BookError, Full, NoRow
from waybook.table import Table

BEYOND = [-HUGE, -7, -2, -1]
WISH = [(0, 1, None)]


def beyond_columns(width):
    """What is a whole number and no column: one beyond, and far beyond, either way."""
    return BEYOND + [width, width + 1, width + 200, HUGE]


def some_table(width, orders=2, rows=5):
    """A table with rows, of which one was dropped, and with orders."""
    table = Table(width)
    for number in range(rows):
        table.put([(number * 3 + column) % 4 for column in range(width)])
    table.drop(1)
    for order in all_orders(width)[:orders]:
        table.tell(order)
    return table


def all_orders(width):
    """Orders of a table of that width: of one column, of two, and of all."""
    found = [(column,) for column in range(width)]
    found += [(one, other) for one in range(width) for other in range(width) if one != other]
    return found + [tuple(range(width))] if width > 2 else found


def full_table():
    table = Table(2)
    for number in range(200):
        table.put([number % 7, number])
    table.tell((0,))
    return table


def state(table):
    """All that a table tells, and the number that it would give to one more row."""
    wishes = [[], [(0, 1, None)], [(0, 0, 0)], [(table.width - 1, None, 2)]]
    rows = [(number, table.row(number)) for number in table.numbers()]
    orders = table.orders()
    told = [(table.costs(wish), table.plan(wish), table.ask(wish)) for wish in wishes]
    following = copy.deepcopy(table)
    if len(rows) == 200:
        following.drop(rows[0][0])
    given = following.put([1] * table.width)
    return table.width, rows, orders, [table.listed(order) for order in orders], told, given, \
        [following.listed(order) for order in orders]


class Refusing(unittest.TestCase):
    def assert_refused(self, refusal, table, deed, *told):
        """The deed is refused so, by this class and no other, and nothing is changed."""
        before = state(table)
        told_before = repr(told)
        with self.assertRaises(BookError, msg=(deed, told)) as caught:
            getattr(table, deed)(*told)
        self.assertIs(type(caught.exception), refusal, (deed, told))
        self.assertEqual(repr(told), told_before)
        self.assertEqual(state(table), before, (deed, told))


class Widths(Refusing):
    def test_from_one_to_six(self):
        for width in WIDTHS:
            self.assertEqual(Table(width).width, width)

    def test_all_else(self):
        for width in NO_NUMBERS + BEYOND + [0, 7, 8, 200, HUGE, HUGE ** 200]:
            with self.assertRaises(BookError) as caught:
                Table(width)
            self.assertIs(type(caught.exception), BadWidth)


class Rows(Refusing):
    def test_what_is_neither_a_list_nor_a_tuple(self):
        for width in [1, 2, 4]:
            table = some_table(width)
            for row in [None, True, 0, 5, "", "1234"[:width], b"1234"[:width], {}, {at: at for at in range(width)},
                        set(range(width)), range(width), iter([1] * width), object(), list]:
                self.assert_refused(BadRow, table, "put", row)

    def test_too_short_too_long_and_empty(self):
        for width in WIDTHS:
            table = some_table(width)
            for many in [0, width - 1, width + 1, width + 200]:
                self.assert_refused(BadRow, table, "put", [1] * many)
                self.assert_refused(BadRow, table, "put", (1,) * many)

    def test_an_item_that_is_no_whole_number(self):
        for width in [1, 3, 6]:
            table = some_table(width)
            for at in sorted({0, width // 2, width - 1}):
                for thing in NO_NUMBERS:
                    row = [7] * at + [thing] + [7] * (width - at - 1)
                    self.assert_refused(BadRow, table, "put", row)
                    self.assert_refused(BadRow, table, "put", tuple(row))

    def test_that_very_list_goes_once_it_is_mended(self):
        table = some_table(3)
        row = [1, True, 3]
        self.assert_refused(BadRow, table, "put", row)
        row[1] = 2
        self.assertEqual(table.put(row), 5)
        self.assertEqual(table.row(5), (1, 2, 3))
        row = [1, 2]
        self.assert_refused(BadRow, table, "put", row)
        row.append(HUGE)
        self.assertEqual(table.put(row), 6)
        self.assertEqual(table.numbers(), [0, 2, 3, 4, 5, 6])


class Fullness(Refusing):
    def test_one_more_than_two_hundred(self):
        table = full_table()
        self.assertEqual(len(table.numbers()), 200)
        self.assert_refused(Full, table, "put", [1, 1])
        self.assert_refused(Full, table, "put", (1, 1))

    def test_a_wrong_row_where_the_table_is_full_too(self):
        table = full_table()
        for row in [None, [], [1], [1, 1, 1], [1, True], [None, 1], "11", {0: 1, 1: 1}]:
            self.assert_refused(BadRow, table, "put", row)

    def test_rows_that_are_there_count_and_not_those_that_were(self):
        table = full_table()
        row = [3, 3]
        for number in range(200, 230):
            self.assert_refused(Full, table, "put", row)
            table.drop(number - 150)
            self.assertEqual(table.put(row), number)
        self.assert_refused(Full, table, "put", row)

    def test_a_full_table_is_changed_told_and_asked(self):
        table = full_table()
        table.change(199, 0, -5)
        table.tell((1, 0))
        self.assertEqual(table.ask([(0, None, -1)]), [199])
        self.assertEqual(table.listed((0,))[0], 199)


class Numbers(Refusing):
    def test_what_is_not_the_number_of_a_row_that_is_there(self):
        table = some_table(2)
        for number in NO_NUMBERS + BEYOND + [1, 5, 6, 200, HUGE]:
            self.assert_refused(NoRow, table, "drop", number)
            self.assert_refused(NoRow, table, "row", number)
            self.assert_refused(NoRow, table, "change", number, 0, 1)

    def test_no_number_is_there_in_a_new_table(self):
        table = Table(1)
        for number in [0, 1, -1, True, False, None]:
            self.assert_refused(NoRow, table, "drop", number)
            self.assert_refused(NoRow, table, "row", number)

    def test_true_and_false_where_rows_one_and_nought_are_there(self):
        table = Table(1)
        table.put([5])
        table.put([6])
        for number in [True, False, 1.0, 0.0]:
            self.assert_refused(NoRow, table, "drop", number)
            self.assert_refused(NoRow, table, "row", number)
            self.assert_refused(NoRow, table, "change", number, 0, 1)

    def test_a_row_that_was_dropped(self):
        table = some_table(3)
        for number in [4, 0, 2, 3]:
            table.drop(number)
            self.assert_refused(NoRow, table, "drop", number)
            self.assert_refused(NoRow, table, "row", number)
            self.assert_refused(NoRow, table, "change", number, 0, 1)


class Changes(Refusing):
    def test_a_column_that_is_none_of_the_tables(self):
        for width in WIDTHS:
            table = some_table(width)
            for column in NO_NUMBERS + beyond_columns(width):
                self.assert_refused(BadColumn, table, "change", 2, column, 1)

    def test_a_new_thing_that_is_no_whole_number(self):
        for width in [1, 3]:
            table = some_table(width)
            for column in range(width):
                for value in NO_NUMBERS:
                    self.assert_refused(BadRow, table, "change", 2, column, value)

    def test_the_number_ahead_of_the_column_ahead_of_the_new_thing(self):
        table = some_table(2)
        for number in [1, 99, True, None, [2]]:
            for column in [True, 2, None, {}]:
                for value in [True, None, []]:
                    self.assert_refused(NoRow, table, "change", number, column, value)
            self.assert_refused(NoRow, table, "change", number, 0, None)
            self.assert_refused(NoRow, table, "change", number, 2, 5)
        for column in [True, 2, None, {}]:
            for value in [True, None, []]:
                self.assert_refused(BadColumn, table, "change", 2, column, value)


class Wishes(Refusing):
    ASKED = ["costs", "plan", "ask"]

    def assert_wish_refused(self, table, wish):
        for deed in self.ASKED:
            self.assert_refused(BadWish, table, deed, wish)
        for way in [None] + table.orders():
            self.assert_refused(BadWish, table, "walked", way, wish)
            self.assert_refused(BadWish, table, "ask_by", way, wish)

    def assert_triple_refused(self, table, triple):
        """Alone, and at the first, a middle and the last place among right ones."""
        self.assert_wish_refused(table, [triple])
        for at in [0, 1, 2]:
            right = [WISH[0], (0, None, None)]
            self.assert_refused(BadWish, table, "ask", right[:at] + [triple] + right[at:])

    def test_what_is_no_list(self):
        table = some_table(2)
        for wish in [None, True, 0, "", "abc", b"", (), tuple(WISH), {}, {0: 1}, set(WISH), (0, 1, None), object()]:
            self.assert_wish_refused(table, wish)

    def test_a_triple_that_is_no_tuple(self):
        table = some_table(2)
        for triple in [None, True, 0, "", "000", b"000", [], [0, 1, None], {0: 1, 1: 1, 2: 1}, {0, 1, 2}, object()]:
            self.assert_triple_refused(table, triple)

    def test_a_triple_of_more_or_fewer_things(self):
        table = some_table(2)
        for triple in [(), (0,), (0, 1), (0, 1, 2, 3), (0, None, None, None), (0, 1, 2) * 2]:
            self.assert_triple_refused(table, triple)

    def test_a_column_that_is_none_of_the_tables(self):
        for width in [1, 3, 6]:
            table = some_table(width, orders=1)
            for column in NO_NUMBERS + beyond_columns(width):
                self.assert_triple_refused(table, (column, 1, 2))

    def test_an_end_that_is_neither_a_whole_number_nor_none(self):
        table = some_table(2, orders=1)
        for end in NO_ENDS:
            self.assert_triple_refused(table, (0, end, 2))
            self.assert_triple_refused(table, (0, 1, end))
            self.assert_triple_refused(table, (0, end, None))
            self.assert_triple_refused(table, (0, None, end))

    def test_twenty_triples_go_and_twenty_one_do_not(self):
        table = some_table(2)
        for triple in [(0, None, None), (1, 0, 5), (0, 9, 1)]:
            wish = [triple] * 20
            self.assertEqual(table.ask(wish), table.ask([triple]))
            self.assertEqual(table.costs(wish), table.costs([triple]))
            wish.append(triple)
            self.assert_wish_refused(table, wish)
            self.assert_wish_refused(table, [triple] * 200)

    def test_a_wrong_triple_at_the_first_a_middle_and_the_last_place_of_twenty(self):
        table = some_table(2)
        for at in [0, 10, 19]:
            for wrong in [(2, 1, 1), (0, True, None), [0, 1, 1], (0, 1)]:
                wish = [(0, None, None)] * 20
                wish[at] = wrong
                self.assert_wish_refused(table, wish)

    def test_a_wrong_triple_behind_one_that_no_row_fits(self):
        self.assert_wish_refused(some_table(2), [(0, 9, 1), (2, 1, 1)])

    def test_a_table_without_rows_refuses_too(self):
        self.assert_wish_refused(Table(2), [(2, 1, 1)])
        self.assert_wish_refused(Table(2), tuple(WISH))

    def test_that_very_list_goes_once_it_is_mended(self):
        table = some_table(2)
        wish = [(0, 1, None), (2, 1, 1)]
        self.assert_wish_refused(table, wish)
        wish[1] = (1, None, None)
        self.assertEqual(table.ask(wish), table.ask([(0, 1, None)]))
        for way in [None] + table.orders():
            self.assertEqual(table.ask_by(way, wish), table.ask([(0, 1, None)]))


class Orders(Refusing):
    def assert_order_refused(self, table, order):
        """Neither kept, nor asked for, nor forgotten."""
        self.assert_refused(BadOrder, table, "tell", order)
        self.assert_not_kept(table, order)

    def assert_not_kept(self, table, order):
        self.assert_refused(BadOrder, table, "forget", order)
        self.assert_refused(BadOrder, table, "listed", order)
        if order is not None:
            self.assert_refused(BadOrder, table, "walked", order, WISH)
            self.assert_refused(BadOrder, table, "ask_by", order, WISH)

    def test_what_is_no_tuple(self):
        for orders in [0, 2]:
            table = some_table(3, orders=orders)
            for order in [None, True, False, 0, 1, "", "0", b"0", [], [0], [0, 1], {}, {0: 1}, {0}, range(1), object()]:
                self.assert_order_refused(table, order)

    def test_an_empty_one(self):
        self.assert_order_refused(some_table(3, orders=0), ())
        self.assert_order_refused(some_table(3), ())

    def test_a_column_that_is_none_of_the_tables(self):
        for width in [1, 3, 6]:
            table = some_table(width, orders=1)
            for column in NO_NUMBERS + beyond_columns(width):
                self.assert_order_refused(table, (column,))
        table = some_table(3)
        for column in NO_NUMBERS + beyond_columns(3):
            for order in [(column, 1, 2), (0, column, 2), (0, 1, column), (column, column)]:
                self.assert_refused(BadOrder, table, "tell", order)

    def test_true_where_the_order_with_one_is_kept(self):
        table = Table(3)
        table.put([1, 2, 3])
        for order in [(0,), (1,), (1, 0), (0, 1, 2)]:
            table.tell(order)
        truths = [(False,), (True,), (True, 0), (1, False), (0, True, 2), (False, 1, 2)]
        for order in truths + [(1.0,), (0.0,), (0, 1.0, 2)]:
            self.assert_order_refused(table, order)

    def test_a_column_twice(self):
        table = some_table(3)
        for order in [(0, 0), (1, 1), (0, 1, 0), (0, 1, 1), (2, 2, 1), (0, 1, 2, 0), (0, 1, 2, 2), (0,) * 9]:
            self.assert_order_refused(table, order)

    def test_more_columns_than_the_table_has(self):
        self.assert_order_refused(some_table(2), (0, 1, 2))
        self.assert_order_refused(some_table(1), (0, 1))

    def test_one_that_is_kept_already(self):
        table = some_table(3, orders=5)
        for order in table.orders():
            self.assert_refused(BadOrder, table, "tell", order)
            self.assert_refused(BadOrder, table, "tell", tuple(list(order)))

    def test_one_that_begins_alike_is_another_one(self):
        table = Table(3)
        told = [(0,), (0, 1), (0, 1, 2), (1, 0), (1,), (2, 0, 1), (2, 1, 0)]
        for order in told:
            table.tell(order)
        self.assertEqual(table.orders(), told)

    def test_a_ninth_one(self):
        table = some_table(4, orders=8)
        ninth = (3, 2)
        self.assertEqual(len(table.orders()), 8)
        self.assertNotIn(ninth, table.orders())
        self.assert_order_refused(table, ninth)
        self.assert_refused(BadOrder, table, "tell", table.orders()[0])
        gone = table.orders()[3]
        table.forget(gone)
        table.tell(ninth)
        self.assertEqual(table.orders()[7], ninth)
        self.assertEqual(table.listed(ninth), [3, 2, 0, 4])
        self.assert_order_refused(table, gone)

    def test_what_is_not_kept(self):
        for orders in [0, 2]:
            table = some_table(3, orders=orders)
            for order in [(2,), (2, 1), (0, 1), (0, 1, 2)]:
                self.assert_not_kept(table, order)

    def test_what_was_forgotten(self):
        table = some_table(3, orders=3)
        for order in [(1,), (2,), (0,)]:
            table.forget(order)
            self.assert_not_kept(table, order)
        self.assertEqual(table.orders(), [])
        table.tell((1,))
        self.assertEqual(table.orders(), [(1,)])

    def test_walking_all_is_no_order(self):
        table = some_table(2)
        for deed in ["tell", "forget", "listed"]:
            self.assert_refused(BadOrder, table, deed, None)

    def test_an_order_ahead_of_a_wish(self):
        table = some_table(2)
        for order in [(1, 0), (2,), (True,), [0], {}, "", (), 0, False]:
            for wish in [None, (), [None], [(2, 1, 1)], [(0, True, 1)], WISH * 21, {}]:
                self.assert_refused(BadOrder, table, "walked", order, wish)
                self.assert_refused(BadOrder, table, "ask_by", order, wish)

    def test_an_order_that_was_refused_goes_once_it_may(self):
        table = some_table(3, orders=1)
        self.assert_refused(BadOrder, table, "tell", (0,))
        table.forget((0,))
        table.tell((0,))
        self.assertEqual(table.orders(), [(0,)])


class Catching(unittest.TestCase):
    def test_book_error_takes_each(self):
        full = full_table()
        table = some_table(2)
        told = [(BadWidth, lambda: Table(0)), (BadRow, lambda: table.put([])), (Full, lambda: full.put([1, 1])),
                (NoRow, lambda: table.drop(1)), (BadColumn, lambda: table.change(0, 2, 1)),
                (BadRow, lambda: table.change(0, 0, None)), (BadWish, lambda: table.ask(None)),
                (BadOrder, lambda: table.tell(()))]
        for refusal, deed in told:
            for family in [refusal, errors.BookError, ValueError]:
                with self.assertRaises(family):
                    deed()

    def test_numbers_too_long_to_be_written_out_are_refused_likewise(self):
        """Python writes out no number of more than 4300 digits: a refusal must not try to."""
        table = some_table(2)
        long = HUGE ** 200
        for refusal, deed, told in [(NoRow, "drop", [long]), (BadColumn, "change", [0, long, 1]),
                                    (BadWish, "ask", [[(long, 1, 1)]]), (BadOrder, "tell", [(long,)]),
                                    (BadRow, "put", [[long]]), (BadRow, "change", [0, 0, (long,)]),
                                    (BadWish, "ask", [[(0, long)]]), (BadOrder, "listed", [(0, -long)])]:
            with self.subTest(deed=deed):
                with self.assertRaises(BookError) as caught:
                    getattr(table, deed)(*told)
                self.assertIs(type(caught.exception), refusal)


class LongRefusals(Refusing):
    def test_deeds_go_on_behind_refusals(self):
        """A table that was refused much does as one that was refused nothing."""
        refused, other = Table(2), plain.PlainTable(2)
        wrong = [("put", [1]), ("put", [1, None]), ("drop", 999), ("change", 999, 0, 1), ("change", 0, 2, 1),
                 ("change", 0, 0, None), ("tell", (0, 0)), ("tell", (2,)), ("forget", (5,)), ("ask", [(2, 1, 1)])]
        right = [("put", [3, 1]), ("tell", (1,)), ("put", [1, 3]), ("tell", (0, 1)), ("put", (1, 1)),
                 ("change", 0, 1, 9), ("put", [0, 0]), ("drop", 2), ("forget", (1,)), ("put", [2, 2]),
                 ("tell", (1, 0)), ("put", [2, 2])]
        for deed, *told in right:
            for name, *thing in wrong:
                with self.assertRaises(BookError):
                    getattr(refused, name)(*thing)
            self.assertEqual(getattr(refused, deed)(*told), getattr(other, deed)(*told))
            self.assertEqual(refused.numbers(), other.numbers())
            self.assertEqual(refused.orders(), other.orders())
            for order in other.orders():
                self.assertEqual(refused.listed(order), other.listed(order))


if __name__ == "__main__":
    unittest.main()
