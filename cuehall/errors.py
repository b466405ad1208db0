"""The errors by which cuehall refuses what it is asked."""


class CueError(ValueError):
    """Something that is refused."""


class NoCue(CueError):
    """What was named is no cue's number, or no cue that is there."""


class Taken(CueError):
    """There is a cue of that number already."""


class TooMany(CueError):
    """There are as many as there may be already."""


class NoLamp(CueError):
    """What was named is no lamp, or none of which a cue tells."""


class NoLevel(CueError):
    """What was named is no level."""


class NoTime(CueError):
    """What was named is no fade or no moment, or it comes too early."""


class NoText(CueError):
    """A text that writes no play; `row` is its first wrong row, from 0."""

    def __init__(self, row):
        CueError.__init__(self, f"row {row} writes no part of a play")
        self.row = row
