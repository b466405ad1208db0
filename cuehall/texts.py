"""Texts: a play written as rows, and read back."""

from cuehall.errors import CueError, NoText
from cuehall.plays import Play

CUE_WORD = "cue"
FRESH_WORD = "fresh"

# The highest number that may stand in a text, the last cue's, has as many.
MOST_FIGURES = 6

# What stands for a word that writes no number: it is below all that may stand anywhere.
NO_NUMBER = -1


def written(play):
    """Tell the text that writes a play."""
    rows = []
    for number in play.numbers():
        up, down, fresh, words = play.cue(number)
        mark = f" {FRESH_WORD}" if fresh else ""
        rows.append(f"{CUE_WORD} {number} {up} {down}{mark}\n")
        for lamp in words:
            rows.append(f"{lamp} {words[lamp]}\n")
    return "".join(rows)


def read(text):
    """Tell the play that a text writes."""
    if type(text) is not str:
        raise NoText(0)
    reader = Reader()
    rows = text.split("\n")
    last = len(rows) - 1
    for at in range(last):
        if not reader.takes(rows[at]):
            raise NoText(at)
    # Behind the last line end nothing may stand, not even a row that is right otherwise.
    if rows[last] != "":
        raise NoText(last)
    return reader.play


class Reader:
    """A play that grows by rows: the number and the lamp that it read last bound the next."""

    def __init__(self):
        self.play = Play()
        self.number = 0
        self.lamp = ""

    def takes(self, row):
        """Take in a row; False where it is none or may not stand here."""
        words = row.split(" ")
        if len(words) == 2:
            return self._takes_word(words[0], _number_of(words[1]))
        if len(words) == 4 and words[0] == CUE_WORD:
            return self._takes_cue(words, False)
        if len(words) == 5 and words[0] == CUE_WORD and words[4] == FRESH_WORD:
            return self._takes_cue(words, True)
        return False

    def _takes_cue(self, words, fresh):
        number = _number_of(words[1])
        if number <= self.number:
            return False
        try:
            self.play.put(number, _number_of(words[2]), _number_of(words[3]), fresh)
        except CueError:
            return False
        self.number = number
        self.lamp = ""
        return True

    def _takes_word(self, lamp, level):
        if lamp <= self.lamp:
            return False
        try:
            # Ahead of the first cue the number is 0, which is no cue's.
            self.play.tell(self.number, lamp, level)
        except CueError:
            return False
        self.lamp = lamp
        return True


def _number_of(word):
    """Tell the number that a word writes, or NO_NUMBER."""
    if len(word) < 1 or len(word) > MOST_FIGURES:
        return NO_NUMBER
    if not all(_is_figure(sign) for sign in word):
        return NO_NUMBER
    if word[0] == "0" and len(word) > 1:
        return NO_NUMBER
    return int(word)


def _is_figure(sign):
    return "0" <= sign and sign <= "9"
