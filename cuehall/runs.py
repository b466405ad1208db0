"""Runs: the lights on their way through the cues that are called."""

from math import gcd

from cuehall.errors import NoCue, NoTime, TooMany
from cuehall.names import is_cue, is_moment

MOST_CALLS = 20

# Exact levels are pairs: the upper number, and the lower one from 1 on.
DARK = (0, 1)


class Goal:
    """Where a cue leads the lights: its fades and its look."""

    def __init__(self, up, down, ends):
        self.up = up
        self.down = down
        self.ends = ends

    def fade(self, lamp, start):
        """Tell how long a lamp is on its way from a level; 0 where it is there."""
        upper, lower = start
        end = self.ends.get(lamp, 0) * lower
        if end > upper:
            return self.up
        if end < upper:
            return self.down
        return 0


class Call:
    """A cue that was called, and the levels of the lamps that were not dark then."""

    def __init__(self, number, moment, starts, goal):
        self.number = number
        self.moment = moment
        self.starts = starts
        self.goal = goal

    def lamps(self):
        """Tell, by the alphabet, all lamps that are not dark at the start or at the end."""
        return sorted({**self.starts, **self.goal.ends})

    def fade(self, lamp):
        """Tell how long a lamp is on its way."""
        return self.goal.fade(lamp, self.starts.get(lamp, DARK))

    def level(self, lamp, moment):
        """Tell the exact level of a lamp at a moment from the call's on."""
        start = self.starts.get(lamp, DARK)
        end = self.goal.ends.get(lamp, 0)
        return _on_the_way(start, end, self.fade(lamp), moment - self.moment)


class Run:
    """A run of a play as it stands; all lamps are dark at first."""

    def __init__(self, play):
        self._numbers = play.numbers()
        self._goals = {}
        for number in self._numbers:
            up, down = play.cue(number)[:2]
            self._goals[number] = Goal(up, down, play.look(number))
        self._made = []

    def call(self, number, moment):
        """Begin the fade to the look of a cue."""
        # A list or a dict is refused before it is sought: it is no key.
        if not is_cue(number) or number not in self._goals:
            raise NoCue("no cue of that number")
        if not is_moment(moment):
            raise NoTime("no moment")
        if self._made and moment < self._made[-1].moment:
            raise NoTime("ahead of the last call")
        if len(self._made) >= MOST_CALLS:
            raise TooMany("there were as many calls as a run may have")
        self._made.append(Call(number, moment, self.at(moment), self._goals[number]))

    def go(self, moment):
        """Call the cue behind the one called last, at first the first one; tell its number."""
        return self._call_place(self._last_place() + 1, moment)

    def back(self, moment):
        """Call the cue ahead of the one called last; tell its number."""
        return self._call_place(self._last_place() - 1, moment)

    def calls(self):
        """Tell all calls, in order, as pairs of a number and a moment."""
        return [(call.number, call.moment) for call in self._made]

    def at(self, moment):
        """Tell the exact levels at a moment of all lamps that are not dark then."""
        if not is_moment(moment):
            raise NoTime("no moment")
        made = [call for call in self._made if call.moment <= moment]
        if not made:
            return {}
        levels = {lamp: made[-1].level(lamp, moment) for lamp in made[-1].lamps()}
        return {lamp: levels[lamp] for lamp in levels if levels[lamp] != DARK}

    def ended(self):
        """Tell the first moment from the last call's on when all lamps are there to stay."""
        if not self._made:
            return 0
        last = self._made[-1]
        return last.moment + max([last.fade(lamp) for lamp in last.lamps()], default=0)

    def _last_place(self):
        """Tell the place of the cue called last among all; ahead of the first one at first."""
        if not self._made:
            return -1
        return self._numbers.index(self._made[-1].number)

    def _call_place(self, place, moment):
        if place < 0 or place >= len(self._numbers):
            raise NoCue("no cue there")
        number = self._numbers[place]
        self.call(number, moment)
        return number


def _on_the_way(start, end, fade, gone):
    """Tell the level when some of the fade from a start to an end is gone."""
    if gone >= fade:
        return (end, 1)
    # Start and end each count by the share of the fade that speaks for it.
    upper = start[0] * (fade - gone) + end * start[1] * gone
    lower = start[1] * fade
    common = gcd(upper, lower)
    return (upper // common, lower // common)
