"""What texts could be taken by core trees if all anchors and bits held."""

from firstway.meaning.walks import bottom_up
from firstway.sets.characters import TEXT_CODES, character
from firstway.sets.ranges import common, least


def possible(core_tree):
    """Whether some text could be taken by the core tree."""
    return _least_texts(core_tree)[0] is not None


def fillable(core_tree):
    """Whether some text that is not empty could be taken by the core tree."""
    return _least_texts(core_tree)[1] is not None


def shortest_text(core, number):
    """A shortest text that can be taken behind the set with a number, or by the whole core tree
    for None; None if there is no such text."""
    core_trees = (core.tree,) if number is None else core.rests[number]
    shortest = ""
    for core_tree in core_trees:
        shortest = _both(shortest, _least_texts(core_tree)[0])
    return shortest


def _least_texts(core_tree):
    """A shortest text and a shortest text that is not empty, of what can be taken, or None each."""
    done = []
    for part in bottom_up(core_tree):
        kind = part[0]
        if kind == "set":
            done.append(_least_of_set(part[2]))
        elif kind in ("sequence", "choice"):
            second = done.pop()
            first = done.pop()
            done.append(_least_of_two(kind, first, second))
        elif kind in ("nonempty", "star"):
            _, filled = done.pop()
            done.append((filled if kind == "nonempty" else "", filled))
        else:
            done.append(("", None))
    return done[0]


def _least_of_set(codes):
    """The two texts of a set."""
    code = least(common(codes, TEXT_CODES))
    if code is None:
        return (None, None)
    return (character(code), character(code))


def _least_of_two(kind, first, second):
    """The two texts of a sequence or a choice, from those of its parts."""
    first_least, first_filled = first
    second_least, second_filled = second
    if kind == "choice":
        return (_shorter(first_least, second_least), _shorter(first_filled, second_filled))
    filled = _shorter(_both(first_filled, second_least), _both(first_least, second_filled))
    return (_both(first_least, second_least), filled)


def _both(a, b):
    """One text behind another, None if one of them is None."""
    if a is None or b is None:
        return None
    return a + b


def _shorter(a, b):
    """The shorter one of two texts, each of which may be None."""
    if a is None or (b is not None and len(b) < len(a)):
        return b
    return a
