"""Facts: what every match of a tree must have."""

from firstway.meaning.walks import bottom_up, parts
from firstway.sets.characters import TEXT_CODES, character
from firstway.sets.named import NOTHING
from firstway.sets.ranges import contains, size, union


class Facts:
    """The facts of a tree, and its word."""

    def __init__(self, tree):
        done = []
        for part in bottom_up(tree):
            below = [done.pop() for _ in parts(part)]
            below.reverse()
            done.append(_facts_of(part, below))
        self.shortest, self.longest, self.begins, self.needs, self.anchored, self.word = done[0]


def _facts_of(tree, below):
    """The facts of a tree as a tuple, in the order of the fields, from those of its parts."""
    kind = tree[0]
    if kind == "empty":
        return (0, 0, NOTHING, (), False, "")
    if kind == "anchor":
        return (0, 0, NOTHING, (), tree[1] == "text_start", None)
    if kind == "set":
        return (1, 1, tree[1], (tree[1],), False, _word_of_set(tree[1]))
    if kind == "sequence":
        return _facts_of_sequence(below[0], below[1])
    if kind == "choice":
        return _facts_of_choice(below[0], below[1])
    if kind == "repeat":
        return _facts_of_repeat(below[0], tree[2], tree[3])
    if kind == "group":
        return (*below[0][:5], None)
    return (0, 0, NOTHING, (), False, None)


def _word_of_set(codes):
    """The word of a set, or None."""
    if size(codes) == 1 and contains(TEXT_CODES, codes[0][0]):
        return character(codes[0][0])
    return None


def _facts_of_sequence(a, b):
    """The facts of a sequence from those of its parts."""
    a_shortest, a_longest, a_begins, a_needs, a_anchored, a_word = a
    b_shortest, b_longest, b_begins, b_needs, b_anchored, b_word = b
    longest = None if a_longest is None or b_longest is None else a_longest + b_longest
    begins = union(a_begins, b_begins) if a_shortest == 0 else a_begins
    anchored = a_anchored or (a_longest == 0 and b_anchored)
    word = None if a_word is None or b_word is None else a_word + b_word
    return (a_shortest + b_shortest, longest, begins, a_needs + b_needs, anchored, word)


def _facts_of_choice(a, b):
    """The facts of a choice from those of its parts."""
    a_shortest, a_longest, a_begins, a_needs, a_anchored, _ = a
    b_shortest, b_longest, b_begins, b_needs, b_anchored, _ = b
    longest = None if a_longest is None or b_longest is None else max(a_longest, b_longest)
    among_b = {codes: True for codes in b_needs}
    needs = tuple([codes for codes in a_needs if codes in among_b])
    shortest = min(a_shortest, b_shortest)
    return (shortest, longest, union(a_begins, b_begins), needs, a_anchored and b_anchored, None)


def _facts_of_repeat(a, least, most):
    """The facts of a repeat from those of its part."""
    if most == 0:
        return (0, 0, NOTHING, (), False, None)
    shortest, part_longest, begins, needs, anchored, _ = a
    longest = _times(most, part_longest)
    if least == 0:
        return (0, longest, begins, (), False, None)
    return (least * shortest, longest, begins, needs, anchored, None)


def _times(most, longest):
    """The longest of so many iterations, None where no bound is known; most is not 0."""
    if longest == 0:
        return 0
    if most is None or longest is None:
        return None
    return most * longest


def may_begin(facts, text, position):
    """Whether a match may begin at a position of the text, as far as the facts tell."""
    if facts.anchored and position > 0:
        return False
    if position + facts.shortest > len(text):
        return False
    if facts.shortest > 0 and not contains(facts.begins, ord(text[position])):
        return False
    codes_behind = [ord(sign) for sign in sorted(set(text[position:]))]
    for needed in facts.needs:
        if not any(contains(needed, code) for code in codes_behind):
            return False
    return True
