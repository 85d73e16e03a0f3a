"""Points 35 to 41 word by word, without any care for time."""

from firstway.sets.ranges import union
from tests.oracle import groups_in

EMPTY = ("empty",)
NEVER = ("set", ())


def size(tree):
    return 1 + sum(size(part) for part in tree if isinstance(part, tuple) and part and isinstance(part[0], str))


def bare(tree):
    return not groups_in(tree)


def join_sequence(a, b):
    if a[0] == "sequence":
        return join_sequence(a[1], join_sequence(a[2], b))
    if a == EMPTY:
        return b
    if b == EMPTY:
        return a
    if a == NEVER and bare(b) or b == NEVER and bare(a):
        return NEVER
    return ("sequence", a, b)


def alternatives(b):
    return [b[1], *alternatives(b[2])] if b[0] == "choice" else [b]


def factored(a, b):
    if a[0] == "sequence" and b[0] == "sequence" and a[1] == b[1] and a[1][0] in ("set", "anchor"):
        return ("sequence", a[1], ("choice", a[2], b[2]))
    return None


def join_choice(a, b):
    if a[0] == "choice":
        return join_choice(a[1], join_choice(a[2], b))
    if a == NEVER:
        return b
    if b == NEVER:
        return a
    if a[0] == "set" and b[0] == "set":
        return ("set", union(a[1], b[1]))
    if a[0] == "set" and b[0] == "choice" and b[1][0] == "set":
        return ("choice", ("set", union(a[1], b[1][1])), b[2])
    if factored(a, b):
        return factored(a, b)
    if b[0] == "choice" and factored(a, b[1]):
        return ("choice", factored(a, b[1]), b[2])
    if bare(a) and a in alternatives(b):
        left = [tree for tree in alternatives(b) if tree != a]
        if not left:
            return a
        whole = left.pop()
        while left:
            whole = ("choice", left.pop(), whole)
        return ("choice", a, whole)
    return ("choice", a, b)


def simplify_repeat(a, least, most, greedy):
    if a == EMPTY:
        return EMPTY
    if a == NEVER:
        return EMPTY if least == 0 else NEVER
    if bare(a) and most == 0:
        return EMPTY
    if bare(a) and least == most == 1:
        return a
    if bare(a) and (least, most) == (0, None) and a[0] == "repeat" and a[2:] == (0, None, greedy):
        return a
    return ("repeat", a, least, most, greedy)


def simplify(tree):
    kind = tree[0]
    if kind == "sequence":
        return join_sequence(simplify(tree[1]), simplify(tree[2]))
    if kind == "choice":
        return join_choice(simplify(tree[1]), simplify(tree[2]))
    if kind == "repeat":
        return simplify_repeat(simplify(tree[1]), *tree[2:])
    if kind == "group":
        return ("group", tree[1], simplify(tree[2]))
    if kind == "look":
        a = simplify(tree[3])
        if a == EMPTY:
            return EMPTY if tree[2] else NEVER
        if a == NEVER:
            return NEVER if tree[2] else EMPTY
        return ("look", tree[1], tree[2], a)
    return tree


def simplest(tree):
    for _ in range(size(tree)):
        tree = simplify(tree)
    return tree
