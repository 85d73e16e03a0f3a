"""Plans: a pattern tree as numbered rows, in the order in which it is read in its direction.

The rows are tuples; numbers in them are those of other rows:
- ("empty",), ("set", codes, backward), ("anchor", name);
- ("sequence", first, second): the second one is read behind the first one;
- ("choice", a, b), ("group", group, part), ("look", positive, inner groups, part);
- ("iteration", inner groups, part): an iteration of a repeat;
- ("further", iteration, following, greedy): one further iteration and what follows it, or none.
"""

from firstway.meaning.patterns import inner_groups
from firstway.meaning.walks import bottom_up_directed, parts


def make_plan(tree, backward):
    """The list of the rows of a tree; the last one is that of the whole tree."""
    rows = []
    done = []
    for part, back in bottom_up_directed(tree, backward):
        below = [done.pop() for _ in parts(part)]
        below.reverse()
        done.append(_add_part(rows, part, below, back))
    return rows


def _add(rows, row):
    """Puts a row behind the others and returns its number."""
    rows.append(row)
    return len(rows) - 1


def _add_part(rows, part, below, backward):
    """Adds the rows of a tree to those of its parts and returns the number of its own one."""
    kind = part[0]
    if kind == "set":
        return _add(rows, ("set", part[1], backward))
    if kind == "sequence" and backward:
        return _add(rows, ("sequence", below[1], below[0]))
    if kind in ("sequence", "choice"):
        return _add(rows, (kind, below[0], below[1]))
    if kind == "repeat":
        return _add_repeat(rows, part, below[0])
    if kind == "group":
        return _add(rows, ("group", part[1], below[0]))
    if kind == "look":
        return _add(rows, ("look", part[2], inner_groups(part[3]), below[0]))
    return _add(rows, part)


def _add_repeat(rows, part, below):
    """Adds the rows of a repeat; all its iterations share one row."""
    _, inner, least, most, greedy = part
    iteration = _add(rows, ("iteration", inner_groups(inner), below))
    if most is None:
        whole = _add(rows, ("further", iteration, len(rows), greedy))
    else:
        whole = _add(rows, ("empty",))
        for _ in range(most - least):
            whole = _add(rows, ("further", iteration, whole, greedy))
    for _ in range(least):
        whole = _add(rows, ("sequence", iteration, whole))
    return whole
