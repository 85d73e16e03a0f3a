"""What can be counted in a pattern tree."""

from firstway.meaning.walks import bottom_up


def repeat_factor(least, most):
    """By what a repeat with these counts multiplies the weight of its part."""
    if most is None:
        return least + 1
    return max(1, most)


def weight(tree):
    """The weight of the tree."""
    weights = []
    for part in bottom_up(tree):
        kind = part[0]
        if kind in ("sequence", "choice"):
            right = weights.pop()
            weights.append(weights.pop() + right)
        elif kind == "repeat":
            weights.append(weights.pop() * repeat_factor(part[2], part[3]))
        elif kind not in ("group", "look"):
            weights.append(1)
    return weights[0]


def inner_groups(tree):
    """The list of the numbers of all groups in the tree, ascending."""
    return sorted([part[1] for part in bottom_up(tree) if part[0] == "group"])


def look_total(tree):
    """The number of look tuples in the tree."""
    return len([part for part in bottom_up(tree) if part[0] == "look"])
