"""Tests of cuehall.errors."""

import unittest

from cuehall import errors

KINDS = ("NoCue", "Taken", "TooMany", "NoLamp", "NoLevel", "NoTime", "NoText")


def kind_called(name):
    return getattr(errors, name)


def made(name):
    """An error of that name, as the program makes it."""
    return errors.NoText(0) if name == "NoText" else kind_called(name)("refused")


class TheClasses(unittest.TestCase):
    def test_the_common_one_stands_right_under_value_error(self):
        self.assertEqual(errors.CueError.__bases__, (ValueError,))

    def test_each_one_stands_right_under_the_common_one(self):
        for name in KINDS:
            with self.subTest(name=name):
                self.assertEqual(kind_called(name).__bases__, (errors.CueError,))
                self.assertTrue(issubclass(kind_called(name), ValueError))

    def test_none_of_the_seven_stands_under_another(self):
        for name in KINDS:
            for other in KINDS:
                with self.subTest(name=name, other=other):
                    under = issubclass(kind_called(name), kind_called(other))
                    self.assertIs(under, name == other)

    def test_each_one_is_defined_in_its_file_under_its_name(self):
        for name in ("CueError",) + KINDS:
            with self.subTest(name=name):
                self.assertEqual(kind_called(name).__name__, name)
                self.assertEqual(kind_called(name).__module__, "cuehall.errors")


class TheErrors(unittest.TestCase):
    def test_each_one_is_raised_and_caught_by_its_own_name(self):
        for name in KINDS:
            with self.subTest(name=name):
                with self.assertRaises(kind_called(name)):
                    raise made(name)

    def test_each_one_is_caught_by_the_names_above_it(self):
        for name in KINDS:
            for above in (errors.CueError, ValueError):
                with self.subTest(name=name, above=above):
                    with self.assertRaises(above):
                        raise made(name)

    def test_each_one_may_be_made_without_words(self):
        for name in ("CueError",) + KINDS[:-1]:
            with self.subTest(name=name):
                self.assertIsInstance(kind_called(name)(), ValueError)


class TheRow(unittest.TestCase):
    def test_no_text_keeps_its_row_when_it_is_made(self):
        for row in (0, 1, 7, 100, 10 ** 6):
            with self.subTest(row=row):
                self.assertEqual(errors.NoText(row).row, row)

    def test_no_text_keeps_its_row_when_it_is_raised(self):
        with self.assertRaises(errors.NoText) as held:
            raise errors.NoText(12)
        self.assertEqual(held.exception.row, 12)

    def test_each_error_has_a_row_of_its_own(self):
        first, second = errors.NoText(3), errors.NoText(4)
        self.assertEqual((first.row, second.row), (3, 4))

    def test_no_other_error_has_a_row(self):
        for name in KINDS[:-1]:
            with self.subTest(name=name):
                self.assertFalse(hasattr(made(name), "row"))


if __name__ == "__main__":
    unittest.main()
