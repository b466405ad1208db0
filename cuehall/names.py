"""Which things are the numbers and texts that stand in a play."""

FIRST_CUE = 1
LAST_CUE = 999999
LONGEST_LAMP = 8
FULL_LEVEL = 100
LONGEST_FADE = 6000
LAST_MOMENT = 1000000000


def is_cue(thing):
    """Tell whether a thing is a cue's number."""
    return _is_number(thing, FIRST_CUE, LAST_CUE)


def is_lamp(thing):
    """Tell whether a thing is a lamp."""
    if type(thing) is not str:
        return False
    if len(thing) < 1 or len(thing) > LONGEST_LAMP:
        return False
    return all(_is_small_letter(sign) for sign in thing)


def is_level(thing):
    """Tell whether a thing is a level."""
    return _is_number(thing, 0, FULL_LEVEL)


def is_fade(thing):
    """Tell whether a thing is a fade."""
    return _is_number(thing, 0, LONGEST_FADE)


def is_moment(thing):
    """Tell whether a thing is a moment."""
    return _is_number(thing, 0, LAST_MOMENT)


def _is_number(thing, lowest, highest):
    # Python counts True and False among the integers; their own kind tells them apart.
    if type(thing) is not int:
        return False
    return lowest <= thing and thing <= highest


def _is_small_letter(sign):
    return "a" <= sign and sign <= "z"
