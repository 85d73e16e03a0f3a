"""Points 46 to 52 word by word, with recursion and without any care for time."""

from firstway.meaning.anchors import anchor_holds
from tests.oracle import groups_in


class Writer:
    """Writes a pattern tree out; `looks` gets its looks in the order in which they end."""

    def __init__(self):
        self.looks = []

    def written(self, tree, backward):
        """The core tree without set numbers, and the numbers of the looks in the tree."""
        kind = tree[0]
        if kind in ("empty", "anchor", "set"):
            return tree, ()
        if kind in ("sequence", "choice"):
            x, first = self.written(tree[1], backward)
            y, second = self.written(tree[2], backward)
            if kind == "sequence" and backward:
                x, y = y, x
            return (kind, x, y), first + second
        if kind == "group":
            x, looks = self.written(tree[2], backward)
            return ("sequence", ("open", tree[1]), ("sequence", x, ("close", tree[1]))), looks
        if kind == "look":
            x, inner = self.written(tree[3], not tree[1])
            number = len(self.looks)
            groups = tuple(sorted(groups_in(tree[3])))
            self.looks.append((tree[1], tree[2], numbered(x), groups, inner))
            bit = ("bit", number, tree[2])
            core = ("sequence", ("forget", groups, inner), bit) if tree[2] else bit
            return core, (*inner, number)
        x, looks = self.written(tree[1], backward)
        iteration = ("sequence", ("forget", tuple(sorted(groups_in(tree[1]))), looks), x)
        return self.repeated(iteration, *tree[2:]), looks

    def repeated(self, iteration, least, most, greedy):
        if least:
            rest = None if most is None else most - 1
            return ("sequence", iteration, self.repeated(iteration, least - 1, rest, greedy))
        if most is None:
            return ("star", iteration, greedy)
        if most == 0:
            return ("empty",)
        further = ("sequence", ("nonempty", iteration), self.repeated(iteration, 0, most - 1, greedy))
        return ("choice", further, ("empty",)) if greedy else ("choice", ("empty",), further)


def numbered(core):
    return _numbered(core, iter(range(10 ** 6)))


def _numbered(core, numbers):
    if core[0] == "set":
        return ("set", next(numbers), core[1])
    if core[0] in ("sequence", "choice"):
        x = _numbered(core[1], numbers)
        return (core[0], x, _numbered(core[2], numbers))
    if core[0] in ("nonempty", "star"):
        return (core[0], _numbered(core[1], numbers), *core[2:])
    return core


def prepared(tree):
    writer = Writer()
    core, _ = writer.written(tree, False)
    return numbered(core), writer.looks


def sets_and_rests(core):
    codes, rests = {}, {}

    def walk(tree, behind):
        if tree[0] == "set":
            codes[tree[1]] = tree[2]
            rests[tree[1]] = behind
        elif tree[0] == "sequence":
            walk(tree[1], (tree[2], *behind))
            walk(tree[2], behind)
        elif tree[0] == "choice":
            walk(tree[1], behind)
            walk(tree[2], behind)
        elif tree[0] == "nonempty":
            walk(tree[1], behind)
        elif tree[0] == "star":
            walk(tree[1], (tree, *behind))

    walk(core, ())
    return tuple(codes[n] for n in range(len(codes))), tuple(rests[n] for n in range(len(rests)))


def once(found):
    kept = []
    for number, registers in found:
        if number not in [n for n, _ in kept]:
            kept.append((number, registers))
    return kept


def moves(core, spot, registers):
    return once(list(_moves(core, spot, registers)))


def moves_of_all(cores, spot, registers):
    if not cores:
        return [(None, registers)]
    found = []
    for number, held in moves(cores[0], spot, registers):
        found += moves_of_all(cores[1:], spot, held) if number is None else [(number, held)]
    return once(found)


def with_entry(row, index, entry):
    return tuple(entry if at == index else old for at, old in enumerate(row))


def _moves(core, spot, registers):
    kind = core[0]
    opened, groups, marks = registers
    if kind == "set":
        yield core[1], registers
    elif kind == "empty":
        yield None, registers
    elif kind == "open":
        yield None, (with_entry(opened, core[1], spot.position), groups, marks)
    elif kind == "close":
        span = tuple(sorted((opened[core[1]], spot.position)))
        yield None, (opened, with_entry(groups, core[1], span), marks)
    elif kind == "forget":
        for group in core[1]:
            groups = with_entry(groups, group, None)
        for look in core[2]:
            marks = with_entry(marks, look, None)
        yield None, (opened, groups, marks)
    elif kind == "bit":
        if spot.bits[core[1]] == core[2]:
            yield None, (opened, groups, with_entry(marks, core[1], spot.position) if core[2] else marks)
    elif kind == "anchor":
        if anchor_holds(core[1], spot.before, spot.after):
            yield None, registers
    else:
        yield from _compound_moves(core, spot, registers)


def _compound_moves(core, spot, registers):
    if core[0] == "sequence":
        for number, held in moves(core[1], spot, registers):
            if number is None:
                yield from moves(core[2], spot, held)
            else:
                yield number, held
    elif core[0] == "choice":
        yield from moves(core[1], spot, registers)
        yield from moves(core[2], spot, registers)
    else:
        taking = [move for move in moves(core[1], spot, registers) if move[0] is not None]
        if core[0] == "star" and not core[2]:
            yield None, registers
        yield from taking
        if core[0] == "star" and core[2]:
            yield None, registers
