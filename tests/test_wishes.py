"""Wishes: DOC.md, waybook/wishes.py and points 4 and 5."""

import itertools
import random
import unittest

import plain
from plain import HUGE
from waybook import wishes


class Fits(unittest.TestCase):
    def assert_fits(self, row, wish, expected):
        """The answer is the same for the row as a list and as a tuple, and nothing is changed."""
        for made in [list(row), tuple(row)]:
            made_before, wish_before = made[:], list(wish)
            self.assertIs(wishes.fits(made, wish), expected, (made, wish))
            self.assertEqual(made, made_before)
            self.assertIs(type(made), type(made_before))
            self.assertEqual(wish, wish_before)

    def test_the_arguments_have_their_names(self):
        self.assertIs(wishes.fits(row=[1], wish=[(0, 1, 1)]), True)

    def test_every_row_fits_the_wish_without_triples(self):
        for width in plain.WIDTHS:
            self.assert_fits([0] * width, [], True)
            self.assert_fits([-HUGE] * width, [], True)

    def test_ends_below_at_and_above_what_stands_there(self):
        for number in [-HUGE ** 2, -HUGE, -1, 0, 1, 7, HUGE, HUGE ** 2]:
            with self.subTest(number=number):
                for low, expected in [(number - 1, True), (number, True), (number + 1, False)]:
                    self.assert_fits([number], [(0, low, None)], expected)
                    self.assert_fits([number], [(0, low, number + 9)], expected)
                for high, expected in [(number - 1, False), (number, True), (number + 1, True)]:
                    self.assert_fits([number], [(0, None, high)], expected)
                    self.assert_fits([number], [(0, number - 9, high)], expected)

    def test_no_end_at_either_side(self):
        for number in [-HUGE, -1, 0, 1, HUGE]:
            self.assert_fits([number], [(0, None, None)], True)

    def test_an_end_that_is_nought_is_an_end(self):
        self.assert_fits([-1], [(0, 0, None)], False)
        self.assert_fits([1], [(0, None, 0)], False)
        self.assert_fits([0], [(0, 0, 0)], True)

    def test_none_fits_a_low_end_greater_than_the_high_one(self):
        for number in [-HUGE, 0, 1, 2, 3, HUGE]:
            self.assert_fits([number], [(0, 2, 1)], False)
            self.assert_fits([number], [(0, HUGE, -HUGE)], False)

    def test_each_column_is_looked_at(self):
        for width in plain.WIDTHS:
            row = [10 + column for column in range(width)]
            for column in range(width):
                with self.subTest(width=width, column=column):
                    self.assert_fits(row, [(column, 10 + column, 10 + column)], True)
                    self.assert_fits(row, [(column, 11 + column, None)], False)
                    self.assert_fits(row, [(column, None, 9 + column)], False)

    def test_all_triples_have_to_be_fitted(self):
        row = [1, 2, 3]
        right = [(0, 1, 1), (1, None, 2), (2, 3, None)]
        self.assert_fits(row, right, True)
        for at, wrong in [(0, (0, 2, None)), (1, (1, None, 1)), (2, (2, 4, 9))]:
            with self.subTest(at=at):
                self.assert_fits(row, right[:at] + [wrong] + right[at + 1:], False)

    def test_several_triples_of_one_column(self):
        self.assert_fits([5], [(0, 1, None), (0, None, 9), (0, 5, 6)], True)
        self.assert_fits([5], [(0, 1, None), (0, None, 9), (0, 6, 6)], False)
        self.assert_fits([5], [(0, 6, None), (0, 1, 9)], False)
        self.assert_fits([5], [(0, 5, 5), (0, 5, 5), (0, None, None)], True)
        self.assert_fits([5], [(0, 1, 5), (0, 6, 9)], False)

    def test_twenty_triples(self):
        row = [1, 2, 3, 4, 5, 6]
        right = [(at % 6, at % 6 + 1 - at, at % 6 + 1 + at) for at in range(20)]
        self.assert_fits(row, right, True)
        for at in [0, 10, 19]:
            wrong = (at % 6, at % 6 + 2, None)
            with self.subTest(at=at):
                self.assert_fits(row, right[:at] + [wrong] + right[at + 1:], False)

    def test_every_row_and_every_pair_of_triples_of_few_numbers(self):
        ends = [None, -1, 0, 1]
        triples = list(itertools.product([0, 1], ends, ends))
        rows = list(itertools.product([-1, 0, 1], repeat=2))
        for one, other in itertools.combinations_with_replacement(triples, 2):
            for row in rows:
                wish = [one, other]
                self.assertIs(wishes.fits(row, wish), plain.fits(row, wish), (row, wish))

    def test_many_rows_and_wishes(self):
        chance = random.Random(4)
        for _ in range(1500):
            width = chance.choice(plain.WIDTHS)
            row, wish = plain.some_row(chance, width), plain.some_wish(chance, width)
            self.assert_fits(row, wish, plain.fits(row, wish))


class Merged(unittest.TestCase):
    def assert_merged(self, wish, expected):
        """The answer is a new list of tuples, each time, and the wish is as it was."""
        wish_before = list(wish)
        answer = wishes.merged(wish)
        self.assertIs(type(answer), list)
        self.assertEqual(answer, expected)
        self.assertTrue(all(type(triple) is tuple for triple in answer))
        self.assertIsNot(answer, wish)
        self.assertEqual(wish, wish_before)
        answer.append("the caller's")
        self.assertEqual(wish, wish_before)
        self.assertEqual(wishes.merged(wish), expected)

    def test_the_argument_has_its_name(self):
        self.assertEqual(wishes.merged(wish=[(0, 1, 1)]), [(0, 1, 1)])

    def test_no_triple(self):
        self.assert_merged([], [])

    def test_one_triple_stays(self):
        for triple in [(0, 1, 2), (3, None, 2), (5, 1, None), (2, None, None), (1, 9, 3), (4, 0, 0)]:
            self.assert_merged([triple], [triple])

    def test_the_columns_rise_whatever_their_order_in_the_wish(self):
        triples = [(0, 1, 2), (2, None, 5), (3, 7, None), (5, None, None)]
        for told in itertools.permutations(triples):
            self.assert_merged(list(told), triples)

    def test_the_greatest_low_end_and_the_least_high_end(self):
        spoken = [(1, 3, 20), (1, 5, 30), (1, 4, 10)]
        for told in itertools.permutations(spoken):
            self.assert_merged(list(told), [(1, 5, 10)])

    def test_ends_of_one_side_only(self):
        self.assert_merged([(0, 3, None), (0, -5, None), (0, 1, None)], [(0, 3, None)])
        self.assert_merged([(0, None, 3), (0, None, -5), (0, None, 1)], [(0, None, -5)])
        self.assert_merged([(0, None, 3), (0, 2, None)], [(0, 2, 3)])
        self.assert_merged([(0, 2, None), (0, None, None), (0, None, 3)], [(0, 2, 3)])

    def test_no_end_at_all(self):
        self.assert_merged([(0, None, None)] * 3, [(0, None, None)])
        self.assert_merged([(1, None, None), (0, None, None)], [(0, None, None), (1, None, None)])

    def test_ends_that_are_nought_and_below(self):
        self.assert_merged([(0, 0, 0), (0, None, None)], [(0, 0, 0)])
        self.assert_merged([(0, 0, None), (0, -1, None)], [(0, 0, None)])
        self.assert_merged([(0, None, 0), (0, None, 1)], [(0, None, 0)])
        self.assert_merged([(0, -3, -1), (0, -2, 0)], [(0, -2, -1)])

    def test_ends_that_leave_nothing_between_them_stay(self):
        self.assert_merged([(0, 9, 3)], [(0, 9, 3)])
        self.assert_merged([(0, 5, None), (0, None, 4)], [(0, 5, 4)])
        self.assert_merged([(0, 1, 2), (0, 3, 4)], [(0, 3, 2)])

    def test_several_triples_that_pin_the_column(self):
        self.assert_merged([(2, None, 7), (2, 7, None)], [(2, 7, 7)])
        self.assert_merged([(2, 1, 7), (2, 7, 9)], [(2, 7, 7)])

    def test_alike_triples(self):
        self.assert_merged([(2, 1, 7), (2, 1, 7)], [(2, 1, 7)])

    def test_numbers_of_any_size(self):
        self.assert_merged([(0, -HUGE - 1, HUGE + 1), (0, -HUGE, HUGE)], [(0, -HUGE, HUGE)])
        self.assert_merged([(0, HUGE ** 2, None), (0, HUGE, HUGE ** 3)], [(0, HUGE ** 2, HUGE ** 3)])

    def test_twenty_triples(self):
        wish = [(5 - at % 6, at, 100 - at) for at in range(20)]
        expected = [(0, 17, 83), (1, 16, 84), (2, 15, 85), (3, 14, 86), (4, 19, 81), (5, 18, 82)]
        self.assert_merged(wish, expected)
        self.assert_merged([(3, at, 50 - at) for at in range(20)], [(3, 19, 31)])

    def test_many_wishes(self):
        chance = random.Random(5)
        for _ in range(1500):
            wish = plain.some_wish(chance, chance.choice(plain.WIDTHS))
            self.assert_merged(wish, plain.merged(wish))

    def test_a_row_fits_a_wish_where_it_fits_the_merged_one(self):
        chance = random.Random(6)
        for _ in range(1000):
            width = chance.choice(plain.WIDTHS)
            row, wish = plain.some_row(chance, width), plain.some_wish(chance, width)
            self.assertIs(wishes.fits(row, wish), wishes.fits(row, wishes.merged(wish)), (row, wish))


if __name__ == "__main__":
    unittest.main()
