"""Kinds of characters that two patterns tell apart."""

from firstway.sets.characters import TEXT_CODES
from firstway.sets.named import LINE_ENDS, WORD
from firstway.sets.ranges import contains


def representatives(first, other):
    """The list of the least codes of all kinds, for two Patterns."""
    sets = {WORD: True, LINE_ENDS: True}
    for pattern in (first, other):
        for core in [pattern.prepared.core, *[look.body for look in pattern.prepared.looks]]:
            for codes in core.sets:
                sets[codes] = True
    found = {}
    for low, high in TEXT_CODES:
        for code in range(low, high):
            found.setdefault(tuple([contains(codes, code) for codes in sets]), code)
    return list(found.values())
