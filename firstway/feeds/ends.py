"""What the threads at the end of what has come can do."""

from firstway.feeds.possible import least_character
from firstway.threads.moves import walk_moves


def decided(core, threads, spot, left):
    """The thread and the move, in the order of both, that is the first one to end or to be open.

    They are a tuple (start, number, registers), with the number None for an end; None if there is
    no such move. `left` tells what can be taken behind each set, as shortest_left does.
    """
    # All threads share the visits: what an earlier one has found was neither open nor an end.
    seen = {}
    for start, number, registers in threads:
        for taken, held in walk_moves(core, number, spot, registers, seen):
            if taken is None or opening(core, taken, left) is not None:
                return (start, taken, held)
    return None


def opening(core, number, left):
    """A shortest text that can be taken by an open move, or None for a move that is not open."""
    sign = least_character(core.sets[number])
    if sign is None or left[number] is None:
        return None
    return sign + left[number]
