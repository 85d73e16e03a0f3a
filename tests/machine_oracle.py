"""Points 53 to 59, 62, 63 and 69 to 76 word by word, without any care for time.

The moves come from core_oracle. The bits of a view are those of the plain meaning.
"""

from firstway.threads.spots import View
from tests import core_oracle, oracle
from tests.oracle import in_set


def looks_in(tree):
    """The look tuples of a tree in the order in which they end."""
    found = []
    for part in tree:
        if isinstance(part, tuple) and part and isinstance(part[0], str):
            found += looks_in(part)
    return found + [tree] if tree[0] == "look" else found


def plain_rows(tree, text):
    """The bits of the looks of a tree, straight from point 50."""
    held = (None,) * (1 + max(oracle.groups_in(tree), default=-1))
    return [
        [bool(oracle.ways(look[3], text, i, held, not look[1])) for i in range(len(text) + 1)]
        for look in looks_in(tree)
    ]


def plain_view(tree, text):
    return View(text, plain_rows(tree, text))


def nothing_held(prepared):
    nothing = (None,) * prepared.group_total
    return nothing, nothing, (None,) * len(prepared.looks)


def moves_left(core, number, spot, registers):
    left = (core.tree,) if number is None else core.rests[number]
    return core_oracle.moves_of_all(left, spot, registers)


def makes(core, number, spot):
    code = spot.before if core.backward else spot.after
    return code is not None and in_set(core.sets[number], chr(code))


def advanced(core, threads, candidate, spot):
    following = []
    for start, number, registers in threads:
        for taken, held in moves_left(core, number, spot, registers):
            if taken is None:
                return following, (start, spot.position, held)
            if makes(core, taken, spot) and taken not in [other for _, other, _ in following]:
                following.append((start, taken, held))
    return following, candidate


def run(core, registers, view, position, renewing):
    """The candidate of a run, and where it stands when it is over."""
    threads, candidate, first = [], None, True
    while not (
        candidate and not threads or not 0 <= position <= len(view.text)
        or not renewing and not first and not threads
    ):
        if candidate is None and (renewing or first):
            threads = threads + [(position, None, registers)]
        threads, candidate = advanced(core, threads, candidate, view.spot(position))
        position += -1 if core.backward else 1
        first = False
    return candidate, position


def search(prepared, view, position):
    candidate, reach = run(prepared.core, nothing_held(prepared), view, position, True)
    return position, candidate, reach


def searches(prepared, view):
    found = [search(prepared, view, 0)]
    while found[-1][1]:
        start, stop, _ = found[-1][1]
        found.append(search(prepared, view, stop + 1 if start == stop else stop))
    return found


def first_way(core, registers, view, position):
    candidate, _ = run(core, registers, view, position, False)
    return candidate and candidate[1:]


def can_be_matched(core, number, spot, state):
    """Point 57; the moves need no registers, but core_oracle asks for some."""
    for taken in numbers_left(core, number, spot):
        if taken is None or makes(core, taken, spot) and taken in state:
            return True
    return False


def numbers_left(core, number, spot):
    rows = (1000 * (0,), 1000 * (None,), 1000 * (None,))
    return [taken for taken, _ in moves_left(core, number, spot, rows)]


def pass_all(body, view):
    positions = list(range(len(view.text) + 1))
    states, bits, state = {}, {}, ()
    for position in positions if body.backward else reversed(positions):
        spot = view.spot(position)
        bits[position] = can_be_matched(body, None, spot, state)
        state = tuple(n for n in range(len(body.sets)) if can_be_matched(body, n, spot, state))
        states[position] = state
    return [states[p] for p in positions], [bits[p] for p in positions]


def single_way(core, registers, view, position):
    kept, number = None, None
    while True:
        spot = view.spot(position)
        made = []
        for taken, held in moves_left(core, number, spot, registers):
            if taken is None:
                kept = (position, held)
                break
            if makes(core, taken, spot):
                made.append((taken, held))
        if not made:
            return kept
        number, registers = made[0]
        position += 1


def next_state(core, spot, state):
    entries, has_candidate = state
    new = []
    for entry in entries if has_candidate else (*entries, None):
        for taken in numbers_left(core, entry, spot):
            if taken is None:
                return (tuple(new), True), True
            if makes(core, taken, spot) and taken not in new:
                new.append(taken)
    return (tuple(new), has_candidate), False


def reaches_exactly(core, number, view, position, stop):
    """Point 74, by following every row of moves."""
    numbers = numbers_left(core, number, view.spot(position))
    if position == stop:
        return None in numbers
    return any(
        reaches_exactly(core, taken, view, position + 1, stop)
        for taken in numbers if taken is not None and makes(core, taken, view.spot(position))
    )
