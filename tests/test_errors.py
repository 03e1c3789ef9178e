"""The refusals: DOC.md, waybook/errors.py."""

import inspect
import unittest

from waybook import errors

NAMES = ["BadWidth", "BadRow", "Full", "NoRow", "BadColumn", "BadWish", "BadOrder"]
REFUSALS = [getattr(errors, name) for name in NAMES]


def handler_that_catches(refusal, others):
    """The first of the others by whose name a raised refusal is caught, or None."""
    for other in others:
        try:
            try:
                raise refusal("refused")
            except other:
                return other
        except errors.BookError:
            pass
    return None


class TheClasses(unittest.TestCase):
    def test_each_is_defined_as_a_class_in_this_file(self):
        for name in NAMES + ["BookError"]:
            with self.subTest(name=name):
                found = getattr(errors, name)
                self.assertTrue(inspect.isclass(found))
                self.assertEqual(found.__module__, "waybook.errors")
                self.assertEqual(found.__name__, name)

    def test_the_seven_are_seven(self):
        self.assertEqual(len(set(REFUSALS)), 7)

    def test_a_book_error_is_a_value_error(self):
        self.assertTrue(issubclass(errors.BookError, ValueError))
        self.assertIsNot(errors.BookError, ValueError)

    def test_each_is_under_book_error(self):
        for refusal in REFUSALS:
            with self.subTest(refusal=refusal):
                self.assertTrue(issubclass(refusal, errors.BookError))
                self.assertIsNot(refusal, errors.BookError)

    def test_none_is_under_another_one(self):
        for refusal in REFUSALS:
            for other in REFUSALS:
                with self.subTest(refusal=refusal, other=other):
                    self.assertEqual(issubclass(refusal, other), refusal is other)

    def test_a_book_error_is_under_none_of_the_seven(self):
        for refusal in REFUSALS:
            with self.subTest(refusal=refusal):
                self.assertFalse(issubclass(errors.BookError, refusal))


class Catching(unittest.TestCase):
    def test_each_is_caught_as_book_error_and_as_value_error(self):
        for refusal in REFUSALS:
            for family in [errors.BookError, ValueError]:
                with self.subTest(refusal=refusal, family=family):
                    with self.assertRaises(family) as caught:
                        raise refusal("refused")
                    self.assertIs(type(caught.exception), refusal)
                    self.assertEqual(str(caught.exception), "refused")

    def test_each_is_caught_by_its_own_name(self):
        for refusal in REFUSALS:
            with self.subTest(refusal=refusal):
                self.assertIs(handler_that_catches(refusal, [refusal]), refusal)

    def test_none_is_caught_by_the_name_of_another_one(self):
        for refusal in REFUSALS:
            others = [other for other in REFUSALS if other is not refusal]
            with self.subTest(refusal=refusal):
                self.assertEqual(len(others), 6)
                self.assertIsNone(handler_that_catches(refusal, others))

    def test_a_book_error_is_caught_as_value_error_and_by_none_of_the_seven(self):
        with self.assertRaises(ValueError):
            raise errors.BookError("refused")
        self.assertIsNone(handler_that_catches(errors.BookError, REFUSALS))

    def test_another_value_error_is_no_refusal(self):
        with self.assertRaises(ValueError) as caught:
            raise ValueError("something else")
        self.assertNotIsInstance(caught.exception, errors.BookError)


if __name__ == "__main__":
    unittest.main()
