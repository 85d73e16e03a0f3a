"""The moves of what is left of a core.

The places of the core are visited in the order of the moves. A place that is visited again could
only give moves that have been found, so it is passed over. This holds within one level: where
what is left behind a set leaves a star, it enters the same star anew, and there a move may be
found before the one that still waits on the level above. So the star begins a new level.
"""

from firstway.meaning.anchors import anchor_holds
from firstway.threads.layout import OUT


def moves(core, number, spot, registers):
    """The list of the moves behind a set, or of the whole core tree for None."""
    return _walked(core.layout, number, spot, registers)


def numbers_of(core, number, spot):
    """The list of the numbers of the same moves, None for an end."""
    return [taken for taken, _ in _walked(core.layout, number, spot, None)]


def taken_code(core, spot):
    """The code that the core takes at the spot, or None."""
    if core.backward:
        return spot.before
    return spot.after


def _walked(layout, number, spot, registers):
    """The moves as a list of tuples; without registers they have None in their place."""
    found = {}
    seen = {}
    todo = [(layout.begin(number), 0, registers)]
    while todo:
        place, level, held = todo.pop()
        if place == OUT:
            found.setdefault(None, held)
        elif (place, level) not in seen:
            seen[place, level] = True
            tree = layout.trees[place]
            if tree[0] == "set":
                found.setdefault(tree[1], held)
            elif tree[0] == "leave":
                if (tree[1], level) not in seen:
                    behind, further_level = _left(layout, place, level)
                    todo.append((behind, further_level, held))
            elif tree[0] in ("sequence", "choice", "nonempty", "star"):
                for inner in _entered(layout, place):
                    todo.append((inner, level, held))
            elif _lets_pass(tree, spot):
                todo.append((layout.behind[place], level, _noted(tree, spot.position, held)))
    return list(found.items())


def _left(layout, place, level):
    """The place and level at which one goes on where what is left leaves a star or a nonempty."""
    whole = layout.trees[place][1]
    if layout.trees[whole][0] == "star":
        return (whole, level + 1)
    return (layout.behind[place], level)


def _entered(layout, place):
    """The places at which the moves of a tree with parts begin, the first one last."""
    tree = layout.trees[place]
    inside = layout.inside[place]
    if tree[0] == "choice":
        return (inside + 1, inside)
    if tree[0] != "star":
        return (inside,)
    if tree[2]:
        return (layout.behind[place], inside)
    return (inside, layout.behind[place])


def _lets_pass(tree, spot):
    """Whether a core tree without parts that takes nothing has an end at the spot."""
    if tree[0] == "bit":
        return spot.bits[tree[1]] == tree[2]
    if tree[0] == "anchor":
        return anchor_holds(tree[1], spot.before, spot.after)
    return True


def _noted(tree, position, registers):
    """The registers behind a core tree that takes nothing, at a position."""
    if registers is None:
        return None
    opened, groups, marks = registers
    if tree[0] == "open":
        return (_with_entry(opened, tree[1], position), groups, marks)
    if tree[0] == "close":
        begin = opened[tree[1]]
        span = (min(begin, position), max(begin, position))
        return (opened, _with_entry(groups, tree[1], span), marks)
    if tree[0] == "forget":
        return (opened, _without_entries(groups, tree[1]), _without_entries(marks, tree[2]))
    if tree[0] == "bit" and tree[2]:
        return (opened, groups, _with_entry(marks, tree[1], position))
    return registers


def _with_entry(row, index, entry):
    """The tuple with another entry at the index."""
    return (*row[:index], entry, *row[index + 1:])


def _without_entries(row, indexes):
    """The tuple with None at the indexes."""
    if not indexes:
        return row
    return tuple([None if index in indexes else entry for index, entry in enumerate(row)])
