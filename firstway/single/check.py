"""Whether a pattern ever leaves a choice.

Sets of codes are whole numbers here, with a binary digit for each code. What can be left is walked
through once for all spots at which the same anchors and bits hold.
"""

from firstway.meaning.anchors import anchor_holds
from firstway.sets.characters import TEXT_CODES
from firstway.sets.named import LINE_ENDS, WORD
from firstway.sets.ranges import common, least, union, without
from firstway.threads.moves import walk_moves
from firstway.threads.spots import Spot


def never_chooses(prepared):
    """Whether the prepared pattern leaves no choice."""
    core = prepared.core
    masks = [_mask(codes) for codes in core.sets]
    # Sets behind which the same is left are asked once.
    lefts = {}
    for number in [None, *range(len(core.sets))]:
        lefts.setdefault(core.layout.begin(number), number)
    for spot, codes_behind in _spots(prepared):
        for number in lefts.values():
            if _leaves_choice(core, number, spot, masks, codes_behind):
                return False
    return True


def _mask(codes):
    """A set of codes as a number."""
    return sum((1 << high) - (1 << low) for low, high in codes)


def _kinds_of_codes():
    """The codes of texts in three sets; all anchors hold alike beside the codes of one set."""
    line_ends = common(TEXT_CODES, LINE_ENDS)
    words = common(TEXT_CODES, WORD)
    return (line_ends, words, without(TEXT_CODES, union(line_ends, words)))


def _spots(prepared):
    """A list of tuples: a spot, and the codes behind any spot where the same holds, as a number."""
    trees = prepared.core.layout.trees
    names = sorted({tree[1] for tree in trees if tree[0] == "anchor"})
    rows = _rows_of_bits(prepared)
    kinds = _kinds_of_codes()
    found = {}
    for before in [None, *[least(kind) for kind in kinds]]:
        for kind in kinds:
            after = least(kind)
            holding = tuple([anchor_holds(name, before, after) for name in names])
            _, codes_behind = found.get(holding, (None, 0))
            found[holding] = ((before, after), codes_behind | _mask(kind))
    return [
        (Spot(0, left, right, row), codes)
        for (left, right), codes in found.values()
        for row in rows
    ]


def _rows_of_bits(prepared):
    """All rows of bits that differ in the looks that the core asks for."""
    rows = [(False,) * len(prepared.looks)]
    for look in sorted({tree[1] for tree in prepared.core.layout.trees if tree[0] == "bit"}):
        rows = rows + [(*row[:look], True, *row[look + 1:]) for row in rows]
    return rows


def _leaves_choice(core, number, spot, masks, codes_behind):
    """Whether two of the moves up to the first end have sets with the same one of these codes."""
    visited = {}
    covered = 0
    for taken, _ in walk_moves(core, number, spot, None, {}):
        if taken is None:
            return False
        if taken not in visited:
            visited[taken] = True
            mask = masks[taken] & codes_behind
            if covered & mask:
                return True
            covered = covered | mask
    return False
