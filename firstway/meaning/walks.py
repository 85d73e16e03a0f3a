"""Walking through trees without recursion: a tree may be deeper than calls may be.

The core trees of part 5 of the document are walked through like pattern trees.
"""


def parts(tree):
    """The trees that a tree consists of, from left to right."""
    kind = tree[0]
    if kind in ("sequence", "choice"):
        return (tree[1], tree[2])
    if kind in ("repeat", "nonempty", "star"):
        return (tree[1],)
    if kind == "group":
        return (tree[2],)
    if kind == "look":
        return (tree[3],)
    return ()


def nested(kind, trees):
    """The trees as one tree of this kind, the later ones within the second parts."""
    whole = trees[-1]
    for tree in reversed(trees[:-1]):
        whole = (kind, tree, whole)
    return whole


def bottom_up(tree):
    """All trees in a tree, itself included, from left to right and each behind its parts."""
    found = []
    todo = [tree]
    while todo:
        part = todo.pop()
        found.append(part)
        todo.extend(parts(part))
    found.reverse()
    return found


def bottom_up_directed(tree, backward):
    """The trees of bottom_up, each in a pair with whether it is read backwards."""
    found = []
    todo = [(tree, backward)]
    while todo:
        part, back = todo.pop()
        found.append((part, back))
        if part[0] == "look":
            back = not part[1]
        for inner in parts(part):
            todo.append((inner, back))
    found.reverse()
    return found
