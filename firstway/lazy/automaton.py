"""The states of the automaton and its steps."""

from firstway.threads.moves import can_be_made, walk_moves


def first_state():
    """The state with which a search begins."""
    return ((), False)


def next_state(core, spot, state):
    """The next state, and whether the step ends a match."""
    entries, has_candidate = state
    if not has_candidate:
        entries = (*entries, None)
    following = {}
    # All entries share the visits: what an earlier one has found has its number already.
    seen = {}
    for entry in entries:
        for taken, _ in walk_moves(core, entry, spot, None, seen):
            if taken is None:
                return ((tuple(following), True), True)
            if can_be_made(core, taken, spot):
                following[taken] = True
    return ((tuple(following), has_candidate), False)
