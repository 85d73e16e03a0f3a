"""Changes of what groups hold.

The ends of ways do not depend on what the groups held before, so a way is kept with the change
that it makes. A change is None for none, ("hold", group, span), ("clear", groups), or
("both", earlier change, later change).
"""


def clearing(groups):
    """The change by which the groups hold nothing."""
    if not groups:
        return None
    return ("clear", groups)


def both(earlier, later):
    """One change behind another."""
    if earlier is None:
        return later
    if later is None:
        return earlier
    return ("both", earlier, later)


def changed(held, change):
    """A tuple with what the groups hold behind a change."""
    groups = list(held)
    todo = [change]
    while todo:
        part = todo.pop()
        if part is None:
            continue
        if part[0] == "both":
            todo.append(part[2])
            todo.append(part[1])
        elif part[0] == "hold":
            groups[part[1]] = part[2]
        else:
            for group in part[1]:
                groups[group] = None
    return tuple(groups)
