"""Writing pattern trees out as core trees."""

from firstway.meaning.patterns import inner_groups
from firstway.meaning.walks import bottom_up, bottom_up_directed, parts


def write_core(tree):
    """The core tree of a pattern tree that is read forwards, and the list of its looks.

    A look is a tuple (ahead, positive, core tree of its part, inner groups, inner looks).
    """
    looks = []
    done = []
    for part, backward in bottom_up_directed(tree, False):
        below = [done.pop() for _ in parts(part)]
        below.reverse()
        inner_looks = ()
        for _, numbers in below:
            inner_looks = inner_looks + numbers
        cores = [inner for inner, _ in below]
        if part[0] == "look":
            number = len(looks)
            core = _write_look(part, cores[0], inner_looks, looks)
            done.append((core, (*inner_looks, number)))
        elif part[0] == "repeat":
            done.append((_write_repeat(part, cores[0], inner_looks), inner_looks))
        else:
            done.append((_write_plain(part, cores, backward), inner_looks))
    return (_with_set_numbers(done[0][0]), looks)


def _write_plain(part, cores, backward):
    """The core tree of a tree that is no look and no repeat."""
    kind = part[0]
    if kind == "sequence" and backward:
        return ("sequence", cores[1], cores[0])
    if kind in ("sequence", "choice"):
        return (kind, cores[0], cores[1])
    if kind == "group":
        number = part[1]
        return ("sequence", ("open", number), ("sequence", cores[0], ("close", number)))
    return part


def _write_look(part, core, inner_looks, looks):
    """The core tree of a look, which is put behind the looks that ended before it."""
    _, ahead, positive, inner = part
    groups = tuple(inner_groups(inner))
    number = len(looks)
    looks.append((ahead, positive, _with_set_numbers(core), groups, inner_looks))
    if positive:
        return ("sequence", ("forget", groups, inner_looks), ("bit", number, True))
    return ("bit", number, False)


def _write_repeat(part, core, inner_looks):
    """The core tree of a repeat."""
    _, inner, least, most, greedy = part
    iteration = ("sequence", ("forget", tuple(inner_groups(inner)), inner_looks), core)
    if most is None:
        whole = ("star", iteration, greedy)
    else:
        whole = ("empty",)
        for _ in range(most - least):
            further = ("sequence", ("nonempty", iteration), whole)
            if greedy:
                whole = ("choice", further, ("empty",))
            else:
                whole = ("choice", ("empty",), further)
    for _ in range(least):
        whole = ("sequence", iteration, whole)
    return whole


def _with_set_numbers(core):
    """The core tree with a number in each set; until here a set is that of the pattern tree."""
    done = []
    count = 0
    for part in bottom_up(core):
        kind = part[0]
        if kind == "set":
            done.append(("set", count, part[1]))
            count += 1
        elif kind in ("sequence", "choice"):
            second = done.pop()
            done.append((kind, done.pop(), second))
        elif kind == "nonempty":
            done.append((kind, done.pop()))
        elif kind == "star":
            done.append((kind, done.pop(), part[2]))
        else:
            done.append(part)
    return done[0]
