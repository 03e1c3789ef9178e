"""What stands ahead of what: DOC.md, waybook/keys.py and point 6."""

import itertools
import unittest

from waybook import keys

HUGE = 10 ** 30


def all_lists(numbers, longest):
    """All lists of the numbers, from the empty one to those of the longest length."""
    lengths = range(longest + 1)
    return [list(made) for length in lengths for made in itertools.product(numbers, repeat=length)]


class Defined(unittest.TestCase):
    def test_both_are_defined_in_this_file(self):
        self.assertEqual(keys.less.__module__, "waybook.keys")
        self.assertEqual(keys.below.__module__, "waybook.keys")

    def test_the_arguments_have_their_names(self):
        self.assertIs(keys.less(one=[1], other=[2]), True)
        self.assertEqual(keys.below(rows=[[1]], key=[2]), 1)


class Less(unittest.TestCase):
    def assert_ahead(self, one, other):
        """The list one stands ahead of the other, and not the other way round."""
        for first, second, expected in [(one, other, True), (other, one, False)]:
            first_before, second_before = list(first), list(second)
            self.assertIs(keys.less(first, second), expected)
            self.assertEqual((first, second), (first_before, second_before))

    def assert_level(self, one):
        """A list is not ahead of its equal, nor of itself."""
        self.assertIs(keys.less(one, list(one)), False)
        self.assertIs(keys.less(one, one), False)

    def test_the_first_place_decides(self):
        self.assert_ahead([1, 9, 9], [2, 0, 0])
        self.assert_ahead([1], [2])

    def test_a_middle_place_decides(self):
        self.assert_ahead([5, 1, 9], [5, 2, 0])
        self.assert_ahead([5, 5, 1, 9, 9], [5, 5, 2, 0, 0])

    def test_the_last_place_decides(self):
        self.assert_ahead([5, 5, 1], [5, 5, 2])

    def test_the_place_decides_ahead_of_the_length(self):
        self.assert_ahead([1, 9, 9, 9], [2])
        self.assert_ahead([1], [2, 0, 0, 0])
        self.assert_ahead([3, 1, 9, 9], [3, 2])

    def test_numbers_decide_and_not_their_digits(self):
        self.assert_ahead([9], [10])
        self.assert_ahead([4, 99], [4, 100])

    def test_the_beginning_of_a_list_is_ahead_of_it(self):
        self.assert_ahead([1, 2], [1, 2, 3])
        self.assert_ahead([1], [1, -5])
        self.assert_ahead([0], [0, 0, 0])
        self.assert_ahead([-1, -1], [-1, -1, -HUGE])

    def test_equal_lists_are_not_ahead(self):
        for one in [[0], [1, 2, 3], [-4, -4], [HUGE, -HUGE]]:
            with self.subTest(one=one):
                self.assert_level(one)

    def test_equal_numbers_that_were_worked_out_apart(self):
        self.assertIs(keys.less([int("1" + "0" * 40), 1], [10 ** 40, 2]), True)
        self.assertIs(keys.less([int("1" + "0" * 40), 2], [10 ** 40, 1]), False)
        self.assertIs(keys.less([int("1" + "0" * 40)], [10 ** 40]), False)

    def test_empty_lists(self):
        self.assert_level([])
        self.assert_ahead([], [0])
        self.assert_ahead([], [-HUGE])
        self.assert_ahead([], [1, 2, 3])

    def test_numbers_below_nought(self):
        self.assert_ahead([-2], [-1])
        self.assert_ahead([-1], [0])
        self.assert_ahead([-10], [-9])
        self.assert_ahead([3, -7], [3, 7])
        self.assert_ahead([-5, 9], [-4, -9])

    def test_numbers_of_any_size(self):
        self.assert_ahead([HUGE], [HUGE + 1])
        self.assert_ahead([-HUGE - 1], [-HUGE])
        self.assert_ahead([-HUGE], [HUGE])
        self.assert_ahead([HUGE, HUGE ** 3 - 1], [HUGE, HUGE ** 3])
        self.assert_ahead([-HUGE ** 3], [0])
        self.assert_ahead([0], [HUGE ** 3])

    def test_sixty_alike_numbers_ahead_of_the_place_that_decides(self):
        for number in [0, 7, -7, HUGE]:
            alike = [number] * 60
            with self.subTest(number=number):
                self.assert_ahead(alike + [1], alike + [2])
                self.assert_ahead(alike + [-2, 9], alike + [-1, 0])
                self.assert_ahead(alike + [1, 9, 9], alike + [2])
                self.assert_ahead(alike, alike + [-1])
                self.assert_level(alike)

    def test_every_pair_of_short_lists(self):
        made = all_lists([-1, 0, 1], 3)
        for one in made:
            for other in made:
                self.assertIs(keys.less(one, other), one < other, (one, other))


class Below(unittest.TestCase):
    def assert_below(self, rows, key):
        """The answer is that of counting the rows one by one, and nothing is changed."""
        counted = len([row for row in rows if row < key])
        rows_before = [list(row) for row in rows]
        members_before = list(rows)
        key_before = list(key)
        answer = keys.below(rows, key)
        self.assertIs(type(answer), int)
        self.assertEqual(answer, counted, (rows, key))
        self.assertEqual(rows, rows_before)
        self.assertTrue(all(row is member for row, member in zip(rows, members_before)))
        self.assertEqual(key, key_before)
        return answer

    def test_no_rows(self):
        for key in [[], [0], [-HUGE], [1, 2, 3]]:
            with self.subTest(key=key):
                self.assertEqual(self.assert_below([], key), 0)

    def test_one_row(self):
        self.assertEqual(self.assert_below([[5, 5]], [5, 4]), 0)
        self.assertEqual(self.assert_below([[5, 5]], [5, 5]), 0)
        self.assertEqual(self.assert_below([[5, 5]], [5, 6]), 1)
        self.assertEqual(self.assert_below([[]], []), 0)
        self.assertEqual(self.assert_below([[]], [0]), 1)

    def test_alike_rows(self):
        rows = [[1, 1]] * 2 + [[2, 2]] * 3 + [[4, 4]] * 4
        self.assertEqual(self.assert_below(rows, [1, 1]), 0)
        self.assertEqual(self.assert_below(rows, [2, 2]), 2)
        self.assertEqual(self.assert_below(rows, [4, 4]), 5)
        self.assertEqual(self.assert_below(rows, [3, 3]), 5)
        self.assertEqual(self.assert_below(rows, [0, 9]), 0)
        self.assertEqual(self.assert_below(rows, [4, 5]), 9)

    def test_all_rows_alike(self):
        for many in [2, 3, 64, 200]:
            rows = [[7, -7] for _ in range(many)]
            with self.subTest(many=many):
                self.assertEqual(self.assert_below(rows, [7, -8]), 0)
                self.assertEqual(self.assert_below(rows, [7, -7]), 0)
                self.assertEqual(self.assert_below(rows, [7, -6]), many)

    def test_a_key_that_is_the_beginning_of_rows(self):
        rows = [[1, 9], [2, -3], [2, 0], [2, 8], [3, 0]]
        self.assertEqual(self.assert_below(rows, [2]), 1)
        self.assertEqual(self.assert_below(rows, [1]), 0)
        self.assertEqual(self.assert_below(rows, [3]), 4)

    def test_a_key_longer_than_the_rows(self):
        rows = [[1], [2], [2], [3]]
        self.assertEqual(self.assert_below(rows, [2, -HUGE]), 3)
        self.assertEqual(self.assert_below(rows, [3, 0, 0]), 4)
        self.assertEqual(self.assert_below(rows, [0, 9]), 0)

    def test_the_empty_key(self):
        self.assertEqual(self.assert_below([[-HUGE], [0], [1, 2]], []), 0)
        self.assertEqual(self.assert_below([[], [], [0]], []), 0)

    def test_rows_of_different_lengths(self):
        rows = [[], [], [1], [1], [1, -1], [1, 0, 0], [1, 0, 5], [1, 2], [2]]
        expected = [([], 0), ([0], 2), ([1], 2), ([1, -2], 4), ([1, -1], 4), ([1, 0], 5),
                    ([1, 0, 0], 5), ([1, 0, 1], 6), ([1, 1], 7), ([2], 8), ([2, -9], 9)]
        for key, count in expected:
            with self.subTest(key=key):
                self.assertEqual(self.assert_below(rows, key), count)

    def test_numbers_of_any_size(self):
        rows = [[-HUGE - 1], [-HUGE], [0], [HUGE], [HUGE], [HUGE + 1]]
        expected = [(-HUGE - 2, 0), (-HUGE - 1, 0), (-HUGE, 1), (-1, 2), (HUGE - 1, 3), (HUGE, 3),
                    (HUGE + 1, 5), (HUGE ** 3, 6)]
        for number, count in expected:
            with self.subTest(number=number):
                self.assertEqual(self.assert_below(rows, [number]), count)

    def test_many_rows(self):
        for many in [63, 64, 65, 199, 200, 201, 513]:
            rows = [[at // 7 - 9, at % 7 // 2] for at in range(many)]
            with self.subTest(many=many):
                self.assertEqual(self.assert_below(rows, [-HUGE]), 0)
                self.assertEqual(self.assert_below(rows, [HUGE]), many)
                for row in rows:
                    self.assert_below(rows, list(row))
                    self.assert_below(rows, row + [0])
                    self.assert_below(rows, row[:1])

    def test_every_place_among_many_rows(self):
        rows = [[2 * at] for at in range(230)]
        for at in range(230):
            self.assertEqual(self.assert_below(rows, [2 * at]), at)
            self.assertEqual(self.assert_below(rows, [2 * at + 1]), at + 1)

    def test_a_key_that_is_one_of_the_rows_itself(self):
        rows = [[1], [2], [2], [3]]
        self.assertEqual(self.assert_below(rows, rows[2]), 1)
        self.assertEqual(self.assert_below(rows, rows[3]), 3)

    def test_every_few_short_rows_and_every_short_key(self):
        members = all_lists([-1, 0, 1], 2)
        wanted = all_lists([-1, 0, 1], 3)
        for many in range(4):
            for chosen in itertools.combinations_with_replacement(sorted(members), many):
                rows = [list(row) for row in chosen]
                for key in wanted:
                    self.assert_below(rows, key)


if __name__ == "__main__":
    unittest.main()
