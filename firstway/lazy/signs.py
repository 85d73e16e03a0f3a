"""What the automaton needs to know of a spot."""

from firstway.sets.named import LINE_ENDS, WORD
from firstway.sets.ranges import contains


def sign_of(core, code):
    """The sign of a code, or None for None."""
    if code is None:
        return None
    return tuple([contains(codes, code) for codes in (*core.sets, WORD, LINE_ENDS)])


def telling(core, spot):
    """What the spot tells: the signs of the codes before and behind it, and its bits."""
    return (sign_of(core, spot.before), sign_of(core, spot.after), spot.bits)
