"""Tests of cuehall.names: point 4, with the last sentence of point 1 and point 3."""

import unittest

from cuehall import names
from cuehall.names import is_cue, is_fade, is_lamp, is_level, is_moment
from plain import OTHERS

# Each function that asks for a number, with the lowest and the highest one.
NUMBERS = (
    (is_cue, 1, 999999),
    (is_level, 0, 100),
    (is_fade, 0, 6000),
    (is_moment, 0, 10 ** 9),
)

SMALL = "abcdefghijklmnopqrstuvwxyz"

# All signs that a text may have but the small letters.
SIGNS = [chr(code) for code in range(32, 127) if chr(code) not in SMALL + "%"] + ["\n"]


class Telling(unittest.TestCase):
    def tells(self, asked, thing, answer):
        with self.subTest(asked=asked.__name__, thing=thing):
            self.assertIs(asked(thing), answer)


class Numbers(Telling):
    def test_ordinary_ones(self):
        for number in (1, 2, 7, 10, 50, 99, 100):
            for asked, _, _ in NUMBERS:
                self.tells(asked, number, True)
        self.tells(is_cue, 123456, True)
        self.tells(is_fade, 3000, True)
        self.tells(is_moment, 123456789, True)

    def test_both_bounds_and_the_numbers_next_to_them(self):
        for asked, lowest, highest in NUMBERS:
            self.tells(asked, lowest - 1, False)
            self.tells(asked, lowest, True)
            self.tells(asked, lowest + 1, True)
            self.tells(asked, highest - 1, True)
            self.tells(asked, highest, True)
            self.tells(asked, highest + 1, False)

    def test_every_level_and_every_fade(self):
        for number in range(-10, 6100):
            self.assertIs(is_level(number), 0 <= number <= 100, number)
            self.assertIs(is_fade(number), 0 <= number <= 6000, number)

    def test_the_number_nought(self):
        self.tells(is_cue, 0, False)
        self.tells(is_level, 0, True)
        self.tells(is_fade, 0, True)
        self.tells(is_moment, 0, True)

    def test_numbers_far_beyond_the_bounds(self):
        for far in (2 ** 31, 2 ** 32 + 1, 2 ** 63, 2 ** 64 + 50, 10 ** 30, 10 ** 400):
            for asked, _, _ in NUMBERS:
                self.tells(asked, far, False)
                self.tells(asked, -far, False)

    def test_numbers_below_nought_are_none(self):
        for asked, lowest, highest in NUMBERS:
            for number in (-1, -2, -50, -100, -lowest - 1, -highest):
                self.tells(asked, number, False)

    def test_truths_are_no_numbers(self):
        for asked, _, _ in NUMBERS:
            self.tells(asked, True, False)
            self.tells(asked, False, False)

    def test_texts_are_no_numbers(self):
        for text in ("", "0", "1", "50", " 1", "1 ", "1\n", "-1", "one", "a", "front", "True"):
            for asked, _, _ in NUMBERS:
                self.tells(asked, text, False)

    def test_other_things_are_no_numbers(self):
        for thing in OTHERS:
            for asked, _, _ in NUMBERS:
                self.tells(asked, thing, False)


class Lamps(Telling):
    def test_ordinary_ones(self):
        for text in ("a", "z", "front", "moon", "cue", "fresh", "lamp", "backdrop"):
            self.tells(is_lamp, text, True)

    def test_each_small_letter_alone_and_at_each_place(self):
        for letter in SMALL:
            for text in (letter, letter * 8, letter + "mmm", "mm" + letter + "mm", "mmm" + letter):
                self.tells(is_lamp, text, True)

    def test_all_lengths(self):
        for length in range(1, 9):
            self.tells(is_lamp, SMALL[:length], True)
        for length in (0, 9, 10, 16, 17, 26, 1000, 100000):
            self.tells(is_lamp, (SMALL * 4000)[:length], False)

    def test_another_sign_alone(self):
        for sign in SIGNS:
            self.tells(is_lamp, sign, False)

    def test_another_sign_at_the_front(self):
        for sign in SIGNS:
            for text in (sign + "a", sign + "front", sign + "abcdefg"):
                self.tells(is_lamp, text, False)

    def test_another_sign_in_the_midst(self):
        for sign in SIGNS:
            for text in ("a" + sign + "b", "fr" + sign + "nt", "abcd" + sign + "fgh"):
                self.tells(is_lamp, text, False)

    def test_another_sign_at_the_end(self):
        for sign in SIGNS:
            for text in ("a" + sign, "front" + sign, "abcdefg" + sign, "abcdefgh" + sign):
                self.tells(is_lamp, text, False)

    def test_nothing_but_other_signs(self):
        for text in ("FRONT", "12", "   ", "\n\n", "A1", "--------", "Z" * 8):
            self.tells(is_lamp, text, False)

    def test_numbers_are_no_lamps(self):
        for number in (-1, 0, 1, 8, 97, 122, 10 ** 9, 10 ** 30, -(10 ** 30)):
            self.tells(is_lamp, number, False)

    def test_other_things_are_no_lamps(self):
        for thing in OTHERS + (["a", "b"], ("a", "b"), ["front"], ("front",), {"front": 50}):
            self.tells(is_lamp, thing, False)


class Keeping(unittest.TestCase):
    def test_what_is_handed_in_stays(self):
        things, table = [1, "a"], {"a": 1}
        for asked in (is_cue, is_lamp, is_level, is_fade, is_moment):
            asked(things)
            asked(table)
        self.assertEqual((things, table), ([1, "a"], {"a": 1}))

    def test_each_function_is_defined_in_its_file(self):
        for name in ("is_cue", "is_lamp", "is_level", "is_fade", "is_moment"):
            self.assertEqual(getattr(names, name).__module__, "cuehall.names")


if __name__ == "__main__":
    unittest.main()
