"""What texts could be taken by core trees if all anchors and bits held."""

from firstway.sets.characters import TEXT_CODES, character
from firstway.sets.ranges import common, least
from firstway.threads.layout import Layout


def possible(core_tree):
    """Whether some text could be taken by the core tree."""
    return _least_texts(Layout(core_tree))[0][0] is not None


def fillable(core_tree):
    """Whether some text that is not empty could be taken by the core tree."""
    return _least_texts(Layout(core_tree))[0][1] is not None


def shortest_text(core, number):
    """A shortest text that can be taken behind the set with a number, or by the whole core tree
    for None; None if there is no such text."""
    return shortest_left(core)[number]


def shortest_left(core):
    """A dict with such a text, or None, for the number of each set and for None."""
    layout = core.layout
    texts = _least_texts(layout)
    behind = [""] * len(layout.trees)
    for place, tree in enumerate(layout.trees):
        first = layout.inside[place]
        if tree[0] == "sequence":
            behind[first] = _both(texts[first + 1][0], behind[place])
            behind[first + 1] = behind[place]
        elif tree[0] == "choice":
            behind[first] = behind[place]
            behind[first + 1] = behind[place]
        elif tree[0] in ("nonempty", "star"):
            # Behind the part of a star stands the star, which need not take anything.
            behind[first] = behind[place]
    left = {number: behind[place] for number, place in layout.set_places.items()}
    left[None] = texts[0][0]
    return left


def least_character(codes):
    """The least character of texts in a set, or None."""
    code = least(common(codes, TEXT_CODES))
    return None if code is None else character(code)


def _least_texts(layout):
    """A list by place: a shortest text and a shortest text that is not empty, of what can be
    taken there, or None each."""
    texts = [("", None)] * len(layout.trees)
    for place in reversed(range(len(layout.trees))):
        tree = layout.trees[place]
        kind = tree[0]
        first = layout.inside[place]
        if kind == "set":
            sign = least_character(tree[2])
            texts[place] = (sign, sign)
        elif kind in ("sequence", "choice"):
            texts[place] = _least_of_two(kind, texts[first], texts[first + 1])
        elif kind in ("nonempty", "star"):
            _, filled = texts[first]
            texts[place] = (filled if kind == "nonempty" else "", filled)
    return texts


def _least_of_two(kind, first, second):
    """The two texts of a sequence or a choice, from those of its parts."""
    first_least, first_filled = first
    second_least, second_filled = second
    if kind == "choice":
        return (_shorter(first_least, second_least), _shorter(first_filled, second_filled))
    filled = _shorter(_both(first_filled, second_least), _both(first_least, second_filled))
    return (_both(first_least, second_least), filled)


def _both(a, b):
    """One text behind another, None if one of them is None."""
    if a is None or b is None:
        return None
    return a + b


def _shorter(a, b):
    """The shorter one of two texts, each of which may be None."""
    if a is None or (b is not None and len(b) < len(a)):
        return b
    return a
