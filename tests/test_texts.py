"""Tests of cuehall.texts: points 13 and 14, with points 1 and 3."""

import re
import unittest

from cuehall.errors import NoText
from cuehall.plays import Play
from cuehall.texts import read, written
from plain import OTHERS, Draws, looks, made, state

FULL = (
    "cue 1 0 6000\n"
    "cue 50\n"
    "fresh 0\n"
    "moonbeam 100\n"
    "cue 20 10 0 fresh\n"
    "cue 21 6000 5999 fresh\n"
    "a 1\n"
    "aa 10\n"
    "b 99\n"
    "cue 999999 7 8\n"
    "z 0\n"
)

FULL_PLAY = (
    (20, {}, 10, 0, True),
    (999999, {"z": 0}, 7, 8),
    (1, {"moonbeam": 100, "fresh": 0, "cue": 50}, 0, 6000, False),
    (21, {"b": 99, "aa": 10, "a": 1}, 6000, 5999, True),
)

# All signs that a text may have.
SIGNS = [chr(code) for code in range(32, 127) if chr(code) != "%"] + ["\n"]

NUMBER = "(0|[1-9][0-9]{0,9})"
CUE_ROW = re.compile(f"cue {NUMBER} {NUMBER} {NUMBER}(?: fresh)?\n")
LAMP_ROW = re.compile(f"([a-z]{{1,8}}) {NUMBER}\n")


def first_wrong_row(text):
    """The number of the first row that may not stand there, or None: by forms alone."""
    ahead, lamp, many = 0, None, 0
    for at, row in enumerate(re.findall("[^\n]*\n|[^\n]+", text)):
        cue, word = CUE_ROW.fullmatch(row), LAMP_ROW.fullmatch(row)
        if cue:
            number, up, down = map(int, cue.groups())
            many += 1
            if not ahead < number <= 999999 or max(up, down) > 6000 or many > 100:
                return at
            ahead, lamp = number, ""
        elif word:
            if lamp is None or not lamp < word[1] or int(word[2]) > 100:
                return at
            lamp = word[1]
        else:
            return at
    return None


class TextCase(unittest.TestCase):
    def refused(self, text, row):
        with self.subTest(text=text if type(text) is str else str(type(text))):
            with self.assertRaises(NoText) as held:
                read(text)
            self.assertIs(type(held.exception), NoText)
            self.assertEqual(held.exception.row, row)

    def right(self, text):
        with self.subTest(text=text):
            self.assertEqual(written(read(text)), text)

    def judged(self, text):
        """Right, or refused with the row that the forms tell."""
        row = first_wrong_row(text)
        if row is None:
            self.right(text)
        else:
            self.refused(text, row)


class Written(TextCase):
    def test_a_play_without_cues(self):
        self.assertEqual(written(Play()), "")

    def test_a_cue_without_words(self):
        self.assertEqual(written(made((7, {}))), "cue 7 0 0\n")
        self.assertEqual(written(made((7, {}, 10, 20))), "cue 7 10 20\n")
        self.assertEqual(written(made((7, {}, 10, 20, True))), "cue 7 10 20 fresh\n")

    def test_cues_in_order_with_their_words_by_the_alphabet(self):
        self.assertEqual(written(made(*FULL_PLAY)), FULL)

    def test_cues_stand_by_their_numbers_and_not_by_their_figures(self):
        play = made((100, {}), (9, {}), (10, {}))
        self.assertEqual(written(play), "cue 9 0 0\ncue 10 0 0\ncue 100 0 0\n")

    def test_spare_words_are_written_too(self):
        play = made((1, {"a": 0}), (2, {"a": 0}))
        self.assertEqual(written(play), "cue 1 0 0\na 0\ncue 2 0 0\na 0\n")

    def test_the_play_stays(self):
        play = made(*FULL_PLAY)
        before = state(play)
        written(play)
        self.assertEqual(state(play), before)


class ReadBack(TextCase):
    def test_the_play_of_a_text(self):
        play = read(FULL)
        self.assertIs(type(play), Play)
        self.assertEqual(state(play), state(made(*FULL_PLAY)))
        self.assertEqual(looks(play), looks(made(*FULL_PLAY)))

    def test_fresh_ones_are_true_and_the_others_false(self):
        play = read(FULL)
        self.assertEqual([play.cue(number)[2] for number in play.numbers()],
                         [False, True, True, False])
        for number in play.numbers():
            self.assertIs(type(play.cue(number)[2]), bool)

    def test_the_text_without_signs(self):
        self.assertEqual(read("").numbers(), [])

    def test_a_row_of_two_words_is_a_lamps(self):
        self.assertEqual(read("cue 1 0 0\na 5\ncue 7\n").cue(1)[3], {"a": 5, "cue": 7})
        self.refused("cue 7\n", 0)
        self.refused("cue 1 0 0\ncue 101\n", 1)

    def test_lamps_called_cue_and_fresh(self):
        play = read("cue 5 0 0 fresh\ncue 5\nfresh 6\n")
        self.assertEqual(play.cue(5), (0, 0, True, {"cue": 5, "fresh": 6}))

    def test_the_alphabet_begins_anew_at_each_cue(self):
        self.right("cue 1 0 0\nz 5\ncue 2 0 0\na 5\nz 5\ncue 3 0 0\nb 1\n")

    def test_a_shorter_lamp_stands_ahead(self):
        self.right("cue 1 0 0\na 5\naa 5\nab 5\nb 5\n")
        self.refused("cue 1 0 0\na 5\nab 5\naa 5\nb 5\n", 3)

    def test_two_plays_read_do_not_lean_on_each_other(self):
        first, second = read(FULL), read(FULL)
        first.tell(1, "a", 5)
        first.cut(20)
        self.assertEqual(written(second), FULL)

    def test_a_play_read_may_be_done_to(self):
        play = read("cue 2 0 0\na 5\n")
        play.put(1)
        play.tell(1, "b", 7)
        self.assertEqual(written(play), "cue 1 0 0\nb 7\ncue 2 0 0\na 5\n")


class Bounds(TextCase):
    def test_cues(self):
        for number in (1, 2, 9, 10, 100000, 999998, 999999):
            self.right(f"cue {number} 0 0\n")
        for number in (0, 1000000, 9999999, 10 ** 10, 10 ** 100):
            self.refused(f"cue {number} 0 0\n", 0)
            self.refused(f"cue {number} 0 0 fresh\n", 0)

    def test_fades(self):
        for fade in (0, 1, 5999, 6000):
            self.right(f"cue 1 {fade} 0\n")
            self.right(f"cue 1 0 {fade} fresh\n")
        for fade in (6001, 9999, 10000, 60000, 1000000, 10 ** 100):
            self.refused(f"cue 1 {fade} 0\n", 0)
            self.refused(f"cue 1 0 {fade} fresh\n", 0)

    def test_levels(self):
        for level in (0, 1, 99, 100):
            self.right(f"cue 1 0 0\na {level}\n")
        for level in (101, 110, 999, 1000, 1000000, 10 ** 100):
            self.refused(f"cue 1 0 0\na {level}\n", 1)

    def test_numbers_of_very_many_figures(self):
        for many in (4300, 4301, 100000):
            for figure in ("0", "1", "9"):
                self.refused(f"cue {figure * many} 0 0\n", 0)
                self.refused(f"cue 1 {figure * many} 0\n", 0)
                self.refused(f"cue 1 0 {figure * many}\n", 0)
                self.refused(f"cue 1 0 0\na {figure * many}\n", 1)

    def test_lamps(self):
        for lamp in ("a", "z", "abcdefgh", "zzzzzzzz"):
            self.right(f"cue 1 0 0\n{lamp} 5\n")
        for lamp in ("", "abcdefghi", "A", "aB", "a1", "a-b", "cue1", "a" * 100000):
            self.refused(f"cue 1 0 0\n{lamp} 5\n", 1)

    def test_a_hundred_and_first_cue(self):
        rows = [f"cue {number} 0 0\na 5\n" for number in range(1, 102)]
        self.right("".join(rows[:100]))
        self.refused("".join(rows), 200)
        self.refused("".join(rows[:100]) + "cue 999999 1 1 fresh\n", 200)
        self.right("".join(rows[:100]) + "b 5\n")

    def test_a_fault_behind_the_hundred_and_first_cue_is_not_the_first(self):
        rows = [f"cue {number} 0 0\n" for number in range(1, 102)]
        self.refused("".join(rows) + "wrong\n", 100)
        self.refused("wrong\n" + "".join(rows), 0)

    def test_a_very_long_text(self):
        letters = "abcdefghijklmnopqrstuvwxyz"
        lamps = [first + second + third for first in letters for second in letters
                 for third in letters]
        text = "cue 1 0 0\n" + "".join(f"{lamp} 5\n" for lamp in lamps)
        self.assertEqual(written(read(text)), text)
        with self.assertRaises(NoText) as held:
            read(text + "aaa 5\n")
        self.assertEqual(held.exception.row, len(lamps) + 1)


class WrongForms(TextCase):
    def test_cue_rows(self):
        for row in (
            "cue", "cue ", "cue 7 0", "cue 7 0 ", "cue 7 0 0 ", " cue 7 0 0",
            "cue  7 0 0", "cue 7  0 0", "cue 7 0  0", "cue 7 0 0  fresh", "cue 7 0 0 fresh ",
            "cue 7 0 0 Fresh", "cue 7 0 0 fres", "cue 7 0 0 freshh", "cue 7 0 0 cue",
            "cue 7 0 0 0", "cue 7 0 0 fresh fresh", "cue 7 0 0 fresh 0", "Cue 7 0 0",
            "CUE 7 0 0", "cues 7 0 0", "fresh 7 0 0", "lamp 7 0 0", "fresh 7 0 0 fresh",
            "lamp 7 0 0 fresh", "cue 07 0 0", "cue 7 00 0", "cue 7 0 00", "cue 7 01 0",
            "cue 7 0 01", "cue +7 0 0", "cue -7 0 0", "cue 7 -0 0", "cue 7 0 +0", "cue 7 0 -1",
            "cue 7. 0 0", "cue 7 0.0 0", "cue 7 0 0x", "cue 7 0 a", "cue one 0 0", "cue 7_0 0 0",
            "cue 7 fresh 0", "cue 7 0 fresh", "cue fresh 0 0", "cue 7 0 0fresh", "cue,7,0,0",
            "7 0 0", "7 0 0 cue", "fresh cue 7 0 0", "cue  0 0", "cue 7  0", "cue 0 0 0", "",
        ):
            self.refused(f"{row}\n", 0)
            self.refused(f"cue 1 0 0\na 5\n{row}\n", 2)

    def test_lamp_rows(self):
        for row in (
            "b", "b ", " b", "b  5", " b 5", "b 5 ", "b 5 5", "b 05", "b 00", "b +5", "b -5",
            "b -0", "b 5.", "b 5_0", "b x", "b five", "B 5", "b1 5", " 5", "5", "5 b", "5 5",
            "b  ", "  5", " ", "  ", "", "b 5 fresh", "b fresh", "cue fresh", "b,5", "b=5", "b\t5",
        ):
            self.refused(f"{row}\n", 0)
            self.refused(f"cue 1 0 0\na 5\n{row}\n", 2)
            self.refused(f"cue 1 0 0\na 5\n{row}\nc 6\nwrong\n", 2)

    def test_a_lamp_ahead_of_the_first_cue(self):
        for row in ("a 5", "cue 5", "fresh 0", "zzzzzzzz 100"):
            self.refused(f"{row}\n", 0)
            self.refused(f"{row}\ncue 1 0 0\n", 0)

    def test_a_lamp_not_behind_the_one_ahead(self):
        self.refused("cue 1 0 0\na 5\na 5\n", 2)
        self.refused("cue 1 0 0\na 5\na 6\n", 2)
        self.refused("cue 1 0 0\nb 5\na 5\n", 2)
        self.refused("cue 1 0 0\nab 5\na 5\n", 2)
        self.refused("cue 1 0 0\na 1\nb 5\ncue 2 0 0\nb 5\nc 1\na 5\n", 6)

    def test_a_cue_not_above_the_one_ahead(self):
        self.refused("cue 2 0 0\ncue 2 0 0\n", 1)
        self.refused("cue 2 0 0\na 5\ncue 1 0 0\n", 2)
        self.refused("cue 10 0 0\ncue 9 0 0\n", 1)
        self.refused("cue 1 0 0\ncue 3 0 0\ncue 2 0 0 fresh\ncue 4 0 0\n", 2)

    def test_a_last_row_without_its_line_end(self):
        self.refused("cue 1 0 0", 0)
        self.refused("cue 1 0 0 fresh", 0)
        self.refused("cue 1 0 0\na 5", 1)
        self.refused("cue 1 0 0\na 5\n ", 2)
        self.refused("wrong", 0)
        self.refused("cue 1 0 0\nwrong\na 5", 1)

    def test_empty_rows(self):
        self.refused("\n", 0)
        self.refused("\n\n", 0)
        self.refused("\ncue 1 0 0\n", 0)
        self.refused("cue 1 0 0\n\n", 1)
        self.refused("cue 1 0 0\n\na 5\n", 1)

    def test_things_that_are_no_texts(self):
        for thing in OTHERS + (0, 1, 10 ** 5000, [FULL], (FULL,), {FULL: 1}, b"cue 1 0 0\n"):
            self.refused(thing, 0)


class OneSignOff(TextCase):
    """Each text that is one sign, or one row, away from a right one."""

    def test_the_forms_hold_of_right_texts(self):
        self.assertIsNone(first_wrong_row(FULL))
        self.assertIsNone(first_wrong_row(""))

    def test_a_sign_left_out(self):
        for at in range(len(FULL)):
            self.judged(FULL[:at] + FULL[at + 1:])

    def test_a_sign_put_in(self):
        for at in range(len(FULL) + 1):
            for sign in SIGNS:
                self.judged(FULL[:at] + sign + FULL[at:])

    def test_a_sign_exchanged(self):
        for at in range(len(FULL)):
            for sign in SIGNS:
                self.judged(FULL[:at] + sign + FULL[at + 1:])

    def test_the_text_ends_early(self):
        for at in range(len(FULL)):
            self.judged(FULL[:at])

    def test_rows_left_out_twice_and_exchanged(self):
        rows = FULL.splitlines(keepends=True)
        for at in range(len(rows)):
            self.judged("".join(rows[:at] + rows[at + 1:]))
            self.judged("".join(rows[:at] + [rows[at]] + rows[at:]))
            for other in range(len(rows)):
                mixed = list(rows)
                mixed[at], mixed[other] = mixed[other], mixed[at]
                self.judged("".join(mixed))
                self.judged("".join(rows[:at] + [rows[other]] + rows[at:]))

    def test_rows_of_mixed_words(self):
        words = ("cue", "fresh", "a", "0", "5", "100", "101", "6000", "6001", "", "01", "A")
        draws = Draws(5)
        for _ in range(3000):
            row = " ".join(draws.one_of(words) for _ in range(1 + draws.below(6)))
            self.judged(f"cue 1 0 0\n{row}\n")
            self.judged(f"{row}\n{row}\n")


if __name__ == "__main__":
    unittest.main()
