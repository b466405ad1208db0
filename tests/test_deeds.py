"""Many deeds done to plays in mixed orders: point 2, with points 3 and 5 to 12."""

import unittest

from cuehall.errors import CueError, NoCue, NoLamp, NoLevel, NoTime, Taken, TooMany
from cuehall.plays import Play
from cuehall.texts import read, written
from plain import Draws, looks, state, walked, walked_look

LAMPS = ("a", "b", "ab", "cue", "fresh", "moonbeam")
NUMBERS = (1, 2, 3, 9, 10, 11, 100, 5000, 999999)


class Model:
    """A play kept as dicts, done to just as the document's words say."""

    def __init__(self):
        self.cues = {}

    def behind(self, number):
        return min((other for other in self.cues if other > number), default=None)

    def there(self, number):
        if type(number) is not int or number not in self.cues:
            raise NoCue()
        return self.cues[number][3]

    def put(self, number, up, down, fresh):
        if type(number) is not int or not 1 <= number <= 999999:
            raise NoCue()
        if number in self.cues:
            raise Taken()
        if not 0 <= up <= 6000 or not 0 <= down <= 6000:
            raise NoTime()
        if len(self.cues) == 100:
            raise TooMany()
        self.cues[number] = (up, down, fresh, {})

    def tell(self, number, lamp, level):
        words = self.there(number)
        if lamp not in LAMPS:
            raise NoLamp()
        if not 0 <= level <= 100:
            raise NoLevel()
        words[lamp] = level

    def untell(self, number, lamp):
        words = self.there(number)
        if lamp not in words:
            raise NoLamp()
        del words[lamp]

    def only(self, number, lamp, level):
        self.there(number)
        behind = self.behind(number)
        had = None if behind is None else walked(self.cues, behind, lamp)
        self.tell(number, lamp, level)
        if behind is not None and walked(self.cues, behind, lamp) != had:
            self.cues[behind][3][lamp] = had

    def cut(self, number):
        self.there(number)
        del self.cues[number]

    def lift(self, number):
        self.there(number)
        behind = self.behind(number)
        had = {} if behind is None else {lamp: walked(self.cues, behind, lamp) for lamp in LAMPS}
        del self.cues[number]
        for lamp in had:
            if walked(self.cues, behind, lamp) != had[lamp]:
                self.cues[behind][3][lamp] = had[lamp]

    def state(self):
        return [(number, *self.cues[number][:3], sorted(self.cues[number][3].items()))
                for number in sorted(self.cues)]

    def spare(self):
        found = []
        for number in sorted(self.cues):
            for lamp, level in sorted(self.cues[number][3].items()):
                words = dict(self.cues[number][3])
                del words[lamp]
                cues = {**self.cues, number: (*self.cues[number][:3], words)}
                if walked(cues, number, lamp) == level:
                    found.append((number, lamp))
        return found


def drawn_deed(draws):
    """A deed as its name and what is told; a few of them are to be refused."""
    number = draws.one_of(NUMBERS + (0, True)) if draws.below(9) == 0 else draws.one_of(NUMBERS)
    lamp = draws.one_of(LAMPS + ("", "Moon")) if draws.below(9) == 0 else draws.one_of(LAMPS)
    level = draws.one_of((0, 0, 1, 50, 50, 100)) if draws.below(15) else 101
    fade = draws.one_of((0, 1, 6000)) if draws.below(15) else 6001
    return draws.one_of((
        ("put", number, fade, draws.below(100), draws.below(4) == 0),
        ("put", number, 0, fade, False),
        ("tell", number, lamp, level), ("tell", number, lamp, level),
        ("tell", number, lamp, level), ("untell", number, lamp),
        ("only", number, lamp, level), ("only", number, lamp, level),
        ("cut", number), ("lift", number),
    ))


def done(thing, deed):
    """What comes of a deed: None, or the kind of its refusal."""
    try:
        return getattr(thing, deed[0])(*deed[1:])
    except CueError as error:
        return type(error)


class MixedDeeds(unittest.TestCase):
    def agree(self, play, model):
        self.assertEqual(state(play), model.state())
        self.assertEqual(play.numbers(), sorted(model.cues))
        for number in model.cues:
            look = walked_look(model.cues, number)
            self.assertEqual(list(play.look(number).items()), sorted(look.items()))
            for lamp in LAMPS:
                self.assertEqual(play.level(number, lamp), look.get(lamp, 0))

    def test_each_deed_against_a_plain_walk(self):
        for seed in range(60):
            draws, play, model = Draws(seed), Play(), Model()
            for at in range(80):
                deed = drawn_deed(draws)
                with self.subTest(seed=seed, at=at, deed=deed):
                    before = looks(play)
                    came = done(play, deed)
                    self.assertIs(came, done(model, deed))
                    self.agree(play, model)
                    if came is None and deed[0] in ("only", "lift"):
                        self.stayed(before, looks(play), deed[1])
                    if came is not None:
                        self.assertEqual(looks(play), before)

    def stayed(self, before, after, number):
        before.pop(number)
        after.pop(number, None)
        self.assertEqual(after, before)

    def test_spare_words_and_least_plays(self):
        for seed in range(100, 160):
            draws, play, model = Draws(seed), Play(), Model()
            for _ in range(60):
                deed = drawn_deed(draws)
                done(play, deed)
                done(model, deed)
            with self.subTest(seed=seed):
                self.assertEqual(play.spare(), model.spare())
                least = play.least()
                self.assertEqual(looks(least), looks(play))
                self.assertEqual([row[:4] for row in state(least)],
                                 [row[:4] for row in state(play)])
                self.assertEqual(least.spare(), [])
                self.assertEqual(state(play), model.state())
                left = [(row[0], lamp) for row in state(least) for lamp, _ in row[4]]
                told = [(row[0], lamp) for row in state(play) for lamp, _ in row[4]]
                self.assertEqual(left, [pair for pair in told if pair not in model.spare()])

    def test_texts_of_them_are_read_back(self):
        for seed in range(200, 230):
            draws, play = Draws(seed), Play()
            for _ in range(60):
                done(play, drawn_deed(draws))
            with self.subTest(seed=seed):
                again = read(written(play))
                self.assertEqual(state(again), state(play))
                self.assertEqual(looks(again), looks(play))
                self.assertEqual(written(again), written(play))


if __name__ == "__main__":
    unittest.main()
