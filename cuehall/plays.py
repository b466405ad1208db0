"""Plays: cues that tell what changes, and the looks that come of it."""

from cuehall.errors import NoCue, NoLamp, NoLevel, NoTime, Taken, TooMany
from cuehall.names import is_cue, is_fade, is_lamp, is_level

MOST_CUES = 100


class Cue:
    """One cue of a play: its fades, whether it is fresh, and the levels that it tells."""

    def __init__(self, up, down, fresh):
        self.up = up
        self.down = down
        self.fresh = fresh
        self.words = {}

    def kept(self, levels):
        """Tell what is left here of the levels ahead."""
        return {} if self.fresh else dict(levels)


class Play:
    """Cues in the order of their numbers; a new play has none."""

    def __init__(self):
        self._cues = {}

    def put(self, number, up=0, down=0, fresh=False):
        """Put in a cue that tells nothing, with its fades for rising and for falling lamps."""
        if not is_cue(number):
            raise NoCue("no number of a cue")
        if number in self._cues:
            raise Taken("there is a cue of that number")
        if not is_fade(up) or not is_fade(down):
            raise NoTime("no fade")
        if len(self._cues) >= MOST_CUES:
            raise TooMany("there are as many cues as a play may have")
        self._cues[number] = Cue(up, down, fresh)

    def tell(self, number, lamp, level):
        """Make a cue tell the level of a lamp, whatever it told of it."""
        cue = self._cue_of(number)
        if not is_lamp(lamp):
            raise NoLamp("no lamp")
        if not is_level(level):
            raise NoLevel("no level")
        cue.words[lamp] = level

    def untell(self, number, lamp):
        """Make a cue tell nothing of a lamp."""
        cue = self._cue_of(number)
        if not is_lamp(lamp) or lamp not in cue.words:
            raise NoLamp("no lamp that the cue tells of")
        del cue.words[lamp]

    def only(self, number, lamp, level):
        """Make a cue tell the level of a lamp; all other looks stay."""
        held = self._look_behind(number)
        self.tell(number, lamp, level)
        self._hold_behind(number, held)

    def cut(self, number):
        """Take out a cue and what it tells."""
        self._cue_of(number)
        del self._cues[number]

    def lift(self, number):
        """Take out a cue; all other looks stay."""
        held = self._look_behind(number)
        self.cut(number)
        self._hold_behind(number, held)

    def numbers(self):
        """Tell the numbers of all cues, rising."""
        return sorted(self._cues)

    def cue(self, number):
        """Tell what a cue is: its two fades, whether it is fresh, and what it tells."""
        cue = self._cue_of(number)
        words = {lamp: cue.words[lamp] for lamp in sorted(cue.words)}
        return (cue.up, cue.down, cue.fresh, words)

    def look(self, number):
        """Tell the levels at a cue of all lamps that are not dark there."""
        levels = self._levels_at(number)
        return {lamp: levels[lamp] for lamp in sorted(levels) if levels[lamp] > 0}

    def level(self, number, lamp):
        """Tell the level of one lamp at a cue."""
        levels = self._levels_at(number)
        if not is_lamp(lamp):
            raise NoLamp("no lamp")
        return levels.get(lamp, 0)

    def spare(self):
        """Tell the pairs of a cue and a lamp of which it tells what would be there untold."""
        found = []
        levels = {}
        for number in self.numbers():
            cue = self._cues[number]
            levels = cue.kept(levels)
            for lamp in sorted(cue.words):
                if cue.words[lamp] == levels.get(lamp, 0):
                    found.append((number, lamp))
            levels.update(cue.words)
        return found

    def least(self):
        """Tell a new play with the same cues and looks, and no word that is spare."""
        play = Play()
        for number in self.numbers():
            up, down, fresh, words = self.cue(number)
            play.put(number, up, down, fresh)
            for lamp in words:
                play.tell(number, lamp, words[lamp])
        for number, lamp in self.spare():
            play.untell(number, lamp)
        return play

    def _cue_of(self, number):
        # A list or a dict is refused before it is sought: it is no key.
        if not is_cue(number) or number not in self._cues:
            raise NoCue("no cue of that number")
        return self._cues[number]

    def _levels_at(self, number):
        """Tell the levels at a cue of all lamps told on the way to it, dark ones too."""
        self._cue_of(number)
        levels = {}
        for other in self.numbers():
            if other <= number:
                cue = self._cues[other]
                levels = cue.kept(levels)
                levels.update(cue.words)
        return levels

    def _behind(self, number):
        """Tell the number of the first cue behind a number, or None."""
        return min([other for other in self._cues if other > number], default=None)

    def _look_behind(self, number):
        """Tell the look of the cue behind another one, or None where there is none."""
        self._cue_of(number)
        behind = self._behind(number)
        return None if behind is None else self.look(behind)

    def _hold_behind(self, number, held):
        """Give the cue behind a number its look back, by words for what differs alone."""
        behind = self._behind(number)
        if behind is None:
            return
        now = self.look(behind)
        for lamp in {**held, **now}:
            level = held.get(lamp, 0)
            if now.get(lamp, 0) != level:
                self.tell(behind, lamp, level)
