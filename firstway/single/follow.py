"""The single thread, for patterns that never leave a choice."""

from firstway.errors import ChoiceError
from firstway.positions import check_position
from firstway.single.check import never_chooses
from firstway.threads.cores import fresh
from firstway.threads.matching import match_of
from firstway.threads.moves import can_be_made, walk_moves
from firstway.threads.passes import view_of


def match_single(pattern, text, position):
    """The match of a Pattern at the position, or None."""
    check_position(text, position)
    prepared = pattern.prepared
    if not never_chooses(prepared):
        raise ChoiceError("the pattern leaves a choice")
    view = view_of(prepared, text)
    way = _followed(prepared.core, fresh(prepared), view, position)
    if way is None:
        return None
    end, registers = way
    return match_of(prepared, view, (position, end, registers))


def _followed(core, registers, view, position):
    """The way of the single thread from a position as a tuple (end, registers), or None."""
    kept = None
    made = (None, registers)
    while made is not None:
        number, held = made
        made, end = _single_step(core, number, view.spot(position), held)
        if end is not None:
            kept = (position, end)
        position += 1
    return kept


def _single_step(core, number, spot, registers):
    """The first move that can be made, and the registers of the end behind it; each may be None."""
    made = None
    for taken, held in walk_moves(core, number, spot, registers, {}):
        if taken is None:
            return (made, held)
        if made is None and can_be_made(core, taken, spot):
            made = (taken, held)
    return (made, None)
