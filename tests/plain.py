"""What the tests share: wrong things, and plays and runs worked out the plain way."""

from fractions import Fraction

from cuehall.plays import Play

# Things that are neither numbers nor texts.
OTHERS = (
    True, False, None, [], [1], ["a"], [50, 60], (), (1,), ("a",), {}, {1: 2}, {"a": 1},
    {1}, {"a"}, b"", b"a", object(), int, str, len,
)

# Texts that are no numbers.
TEXTS = ("", "1", "2", "50", " 1", "1\n", "a", "front")

NO_CUES = OTHERS + TEXTS + (0, -1, -5, 1000000, 10 ** 30, -(10 ** 30), 10 ** 5000)
NO_LEVELS = OTHERS + TEXTS + (-1, 101, -50, 10 ** 30, -(10 ** 30), 10 ** 5000)
NO_FADES = OTHERS + TEXTS + (-1, 6001, -50, 10 ** 30, -(10 ** 30), 10 ** 5000)
NO_MOMENTS = OTHERS + TEXTS + (-1, 10 ** 9 + 1, -50, 10 ** 30, -(10 ** 30), 10 ** 5000)
NO_LAMPS = OTHERS + (
    0, 1, 2, 50, -1, 10 ** 5000, "", "A", "Front", "frontlamp", "a b", " a", "a ", "a\n",
    "a1", "1", "a_b", "-a", "~", "a" * 9, "a" * 100000,
)


class Draws:
    """Numbers that look mixed and are the same in each run of the tests."""

    def __init__(self, seed):
        self.now = seed * 7919 + 17

    def below(self, bound):
        self.now = (self.now * 6364136223846793005 + 1442695040888963407) % 2 ** 64
        return (self.now >> 33) % bound

    def one_of(self, things):
        return things[self.below(len(things))]


def made(*cues):
    """A play of cues (number, words) or (number, words, up, down, fresh)."""
    play = Play()
    for number, words, *more in cues:
        play.put(number, *more)
        for lamp, level in words.items():
            play.tell(number, lamp, level)
    return play


def state(play):
    """All that a play tells of its cues, the order of its words too."""
    rows = []
    for number in play.numbers():
        up, down, fresh, words = play.cue(number)
        rows.append((number, up, down, fresh, list(words.items())))
    return rows


def walked(cues, number, lamp):
    """A lamp's level at a cue, by walking back to where it was told last.

    `cues` is a dict from numbers to (up, down, fresh, words).
    """
    for at in sorted(cues, reverse=True):
        if at <= number:
            fresh, words = cues[at][2:]
            if lamp in words:
                return words[lamp]
            if fresh:
                return 0
    return 0


def walked_look(cues, number):
    lamps = {lamp for cue in cues.values() for lamp in cue[3]}
    levels = {lamp: walked(cues, number, lamp) for lamp in sorted(lamps)}
    return {lamp: level for lamp, level in levels.items() if level}


def cues_of(play):
    return {number: play.cue(number) for number in play.numbers()}


def looks(play):
    """The looks of all cues, with the order of their lamps."""
    return {number: list(play.look(number).items()) for number in play.numbers()}


def way(cues, calls, lamp, moment):
    """The exact level of a lamp at a moment, behind the calls in order."""
    calls = [call for call in calls if call[1] <= moment]
    if not calls:
        return Fraction(0)
    number, begun = calls[-1]
    start = way(cues, calls[:-1], lamp, begun)
    end = walked(cues, number, lamp)
    fade = cues[number][0] if end > start else cues[number][1]
    if start == end or moment - begun >= fade:
        return Fraction(end)
    return start + (end - start) * Fraction(moment - begun, fade)


def ways(cues, calls, moment):
    """What a run is to tell of a moment, as pairs in order."""
    lamps = sorted({lamp for cue in cues.values() for lamp in cue[3]})
    levels = [(lamp, way(cues, calls, lamp, moment)) for lamp in lamps]
    return [(lamp, (at.numerator, at.denominator)) for lamp, at in levels if at]
