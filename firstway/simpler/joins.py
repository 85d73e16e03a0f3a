"""Joining simplified trees on a shelf to sequences and choices.

What stands along the second parts of a joined tree is kept in a line: a list of numbers, the last
one first, because further trees are put in front.
"""

from firstway.sets.ranges import union

EMPTY = ("empty",)
NEVER = ("set", ())


def joined(shelf, kind, numbers):
    """The number of the trees joined to one of this kind, from the last one on."""
    line = list(shelf.along(kind, numbers[-1]))
    line.reverse()
    for number in reversed(numbers[:-1]):
        line = _with_tree(shelf, kind, number, line)
    line.reverse()
    return shelf.chained(kind, line)


def _with_tree(shelf, kind, number, line):
    """The line joined with a tree ahead of it; `line` is used up."""
    todo = [number]
    while todo:
        part = todo.pop()
        row = shelf.rows[part]
        if row[0] == kind:
            todo.extend(row[1])
        elif kind == "sequence":
            line = _sequence_line(shelf, part, line)
        else:
            line = _choice_line(shelf, part, line)
    return line


def _sequence_line(shelf, part, line):
    """The line of a sequence joined with a tree that is no sequence."""
    empty = shelf.number_of(EMPTY)
    never = shelf.number_of(NEVER)
    if part == empty:
        return line
    if line == [empty]:
        return [part]
    if part == never and shelf.all_bare(line):
        return [never]
    if line == [never] and shelf.bare[part]:
        return [never]
    line.append(part)
    return line


def _choice_line(shelf, part, line):
    """The line of a choice joined with a tree that is no choice."""
    never = shelf.number_of(NEVER)
    if part == never:
        return line
    if line == [never]:
        return [part]
    merged = _merged(shelf, part, line[-1])
    if merged is not None:
        line[-1] = merged
        return line
    if shelf.bare[part] and part in line:
        line = [other for other in line if other != part]
    line.append(part)
    return line


def _merged(shelf, a, b):
    """The number of the one tree that two neighbouring alternatives become, or None."""
    a_row = shelf.rows[a]
    b_row = shelf.rows[b]
    if a_row[0] == "set" and b_row[0] == "set":
        return shelf.number_of(("set", union(a_row[1], b_row[1])))
    if a_row[0] == "sequence" and b_row[0] == "sequence":
        return _factored(shelf, a_row[1], b_row[1])
    return None


def _factored(shelf, a, b):
    """The sequence of the common beginning of two sequences and the choice of what follows."""
    if a[0] != b[0] or shelf.rows[a[0]][0] not in ("set", "anchor"):
        return None
    behind_a = shelf.chained("sequence", a[1:])
    behind_b = shelf.chained("sequence", b[1:])
    return shelf.chained("sequence", (a[0], shelf.chained("choice", (behind_a, behind_b))))
