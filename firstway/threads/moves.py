"""The moves of what is left of a core.

The places of the core are visited in the order of the moves. A visit that is made again could only
give moves that have been found, so it is passed over.
"""

from firstway.meaning.anchors import anchor_holds
from firstway.sets.ranges import contains
from firstway.threads.layout import OUT


def moves(core, number, spot, registers):
    """The list of the moves behind a set, or of the whole core tree for None."""
    found = {}
    for taken, held in walk_moves(core, number, spot, registers, {}):
        found.setdefault(taken, held)
    return list(found.items())


def numbers_of(core, number, spot):
    """The list of the numbers of the same moves, None for an end."""
    return [taken for taken, _ in moves(core, number, spot, None)]


def taken_code(core, spot):
    """The code that the core takes at the spot, or None."""
    if core.backward:
        return spot.before
    return spot.after


def can_be_made(core, number, spot):
    """Whether a move that takes by the set with a number can be made at the spot."""
    code = taken_code(core, spot)
    return code is not None and contains(core.sets[number], code)


def walk_moves(core, number, spot, registers, seen):
    """Yields the moves behind a set, or of the whole core tree for None, some of them repeatedly.

    What is visited is noted in `seen`. What stands there already is passed over, so one who walks
    several times at a spot finds a move once, where it is found first. Without registers the moves
    have None in their place.
    """
    trees = core.layout.trees
    onward = core.visits.onward
    todo = [(core.visits.first[number], registers)]
    while todo:
        visit, held = todo.pop()
        if visit in seen:
            continue
        seen[visit] = True
        place, _ = visit
        if place == OUT:
            yield (None, held)
            continue
        tree = trees[place]
        if tree[0] == "set":
            yield (tree[1], held)
            continue
        if tree[0] not in ("choice", "star"):
            if not lets_pass(tree, spot):
                continue
            held = _noted(tree, spot.position, held)
        for further in onward[visit]:
            todo.append((further, held))


def lets_pass(tree, spot):
    """Whether a core tree without parts that takes nothing has an end at the spot."""
    if tree[0] == "bit":
        return spot.bits[tree[1]] == tree[2]
    if tree[0] == "anchor":
        return anchor_holds(tree[1], spot.before, spot.after)
    return True


def _noted(tree, position, registers):
    """The registers behind a core tree that takes nothing, at a position."""
    if registers is None:
        return None
    opened, groups, marks = registers
    if tree[0] == "open":
        return (_with_entry(opened, tree[1], position), groups, marks)
    if tree[0] == "close":
        begin = opened[tree[1]]
        span = (min(begin, position), max(begin, position))
        return (opened, _with_entry(groups, tree[1], span), marks)
    if tree[0] == "forget":
        return (opened, _without_entries(groups, tree[1]), _without_entries(marks, tree[2]))
    if tree[0] == "bit" and tree[2]:
        return (opened, groups, _with_entry(marks, tree[1], position))
    return registers


def _with_entry(row, index, entry):
    """The tuple with another entry at the index."""
    return (*row[:index], entry, *row[index + 1:])


def _without_entries(row, indexes):
    """The tuple with None at the indexes."""
    if not indexes:
        return row
    entries = list(row)
    for index in indexes:
        entries[index] = None
    return tuple(entries)
