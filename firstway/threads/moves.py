"""The moves of what is left of a core.

The places of the core are visited in the order of the moves. A place that is visited again could
only give moves that have been found, so it is passed over. But it depends on the way to a place
what can be found from there: a star or nonempty that was entered on this way is not left without
taking anything, while what is left behind a set leaves it, and enters the star anew. So a visit is
a place and whether the innermost star or nonempty around it was entered on the way.
"""

from firstway.meaning.anchors import anchor_holds
from firstway.sets.ranges import contains
from firstway.threads.layout import OUT


def moves(core, number, spot, registers):
    """The list of the moves behind a set, or of the whole core tree for None."""
    found = {}
    for taken, held in walk_moves(core, number, spot, registers, {}):
        found.setdefault(taken, held)
    return list(found.items())


def numbers_of(core, number, spot):
    """The list of the numbers of the same moves, None for an end."""
    return [taken for taken, _ in moves(core, number, spot, None)]


def taken_code(core, spot):
    """The code that the core takes at the spot, or None."""
    if core.backward:
        return spot.before
    return spot.after


def can_be_made(core, number, spot):
    """Whether a move that takes by the set with a number can be made at the spot."""
    code = taken_code(core, spot)
    return code is not None and contains(core.sets[number], code)


def walk_moves(core, number, spot, registers, seen):
    """Yields the moves behind a set, or of the whole core tree for None, some of them repeatedly.

    What is visited is noted in `seen`. What stands there already is passed over, so one who walks
    several times at a spot finds a move once, where it is found first. Without registers the moves
    have None in their place.
    """
    layout = core.layout
    todo = [(layout.begin(number), False, registers)]
    while todo:
        place, entered, held = todo.pop()
        if (place, entered) in seen:
            continue
        seen[place, entered] = True
        if place == OUT:
            yield (None, held)
            continue
        tree = layout.trees[place]
        if tree[0] == "set":
            yield (tree[1], held)
        elif tree[0] in ("sequence", "choice", "nonempty", "star", "leave"):
            for further, further_entered in _further_visits(layout, place, entered):
                todo.append((further, further_entered, held))
        elif lets_pass(tree, spot):
            todo.append((layout.behind[place], entered, _noted(tree, spot.position, held)))


def lets_pass(tree, spot):
    """Whether a core tree without parts that takes nothing has an end at the spot."""
    if tree[0] == "bit":
        return spot.bits[tree[1]] == tree[2]
    if tree[0] == "anchor":
        return anchor_holds(tree[1], spot.before, spot.after)
    return True


def _further_visits(layout, place, entered):
    """The visits that come next at a place that neither takes nor notes, the first one last."""
    tree = layout.trees[place]
    inside = layout.inside[place]
    if tree[0] == "sequence":
        return ((inside, entered),)
    if tree[0] == "choice":
        return ((inside + 1, entered), (inside, entered))
    if tree[0] == "leave":
        return _visits_from_inside(layout, place, entered)
    if tree[0] == "nonempty":
        return ((inside, True),)
    beyond = (layout.behind[place], entered)
    return (beyond, (inside, True)) if tree[2] else ((inside, True), beyond)


def _visits_from_inside(layout, place, entered):
    """The visits that come next where what is left leaves a star or a nonempty."""
    if entered:
        return ()
    whole = layout.trees[place][1]
    if layout.trees[whole][0] == "star":
        return ((whole, False),)
    return ((layout.behind[place], False),)


def _noted(tree, position, registers):
    """The registers behind a core tree that takes nothing, at a position."""
    if registers is None:
        return None
    opened, groups, marks = registers
    if tree[0] == "open":
        return (_with_entry(opened, tree[1], position), groups, marks)
    if tree[0] == "close":
        begin = opened[tree[1]]
        span = (min(begin, position), max(begin, position))
        return (opened, _with_entry(groups, tree[1], span), marks)
    if tree[0] == "forget":
        return (opened, _without_entries(groups, tree[1]), _without_entries(marks, tree[2]))
    if tree[0] == "bit" and tree[2]:
        return (opened, groups, _with_entry(marks, tree[1], position))
    return registers


def _with_entry(row, index, entry):
    """The tuple with another entry at the index."""
    return (*row[:index], entry, *row[index + 1:])


def _without_entries(row, indexes):
    """The tuple with None at the indexes."""
    if not indexes:
        return row
    entries = list(row)
    for index in indexes:
        entries[index] = None
    return tuple(entries)
