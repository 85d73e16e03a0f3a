"""Searches that skip positions at which no match can begin."""

from firstway.errors import NoWord
from firstway.positions import check_position
from firstway.simpler.facts import Facts, may_begin
from firstway.threads.matching import match_from
from firstway.threads.passes import view_of


def skip_search(pattern, text, position=0):
    """The match at the least position from this one on, or None."""
    check_position(text, position)
    facts = Facts(pattern.tree)
    view = view_of(pattern.prepared, text)
    for start in range(position, len(text) + 1):
        if may_begin(facts, text, start):
            found = match_from(pattern.prepared, view, start)
            if found is not None:
                return found
    return None


def word_search(pattern, text, position=0):
    """The match where the word of the pattern stands, from the position on, or None."""
    word = Facts(pattern.tree).word
    if word is None:
        raise NoWord("the pattern has no word")
    check_position(text, position)
    start = text.find(word, position)
    if start == -1:
        return None
    return (start, start + len(word), ())
