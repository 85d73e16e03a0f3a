"""Comparing two patterns, by searching with both of them side by side in all texts at once."""

from firstway.comparing.kinds import representatives
from firstway.comparing.sides import Searcher, ranked
from firstway.errors import CountError, GroupInLook, GroupsDiffer, TooManyStates
from firstway.sets.characters import character

_LIMIT_AT_MOST = 500


def compare(first, other, *, limit):
    """None, or the least text that tells two Patterns apart."""
    if not 1 <= limit <= _LIMIT_AT_MOST:
        raise CountError(f"the limit {limit} is not from 1 to {_LIMIT_AT_MOST}")
    both = (first.prepared, other.prepared)
    if both[0].group_total != both[1].group_total:
        raise GroupsDiffer("the patterns have not the same number of groups")
    for prepared in both:
        if any([len(look.groups) > 0 for look in prepared.looks]):
            raise GroupInLook("a look has a group within it")
    codes = representatives(first, other)
    searchers = [Searcher(prepared, codes, limit) for prepared in both]
    return _least_text(searchers, codes, limit)


def _least_text(searchers, codes, limit):
    """None, or the least text in which the searchers find different matches."""
    position = 0
    # States are written with ranks in the place of positions, so alike ones are equal. Ranks are
    # less than the position, as positions are, and so the states can go on as they are.
    level = {(None, *[searcher.first_side() for searcher in searchers]): ""}
    found = {state: True for state in level}
    while level:
        telling = [text for state, text in level.items() if _tells_apart(searchers, state, position)]
        if telling:
            return min(telling)
        level = _next_level(searchers, level, found, position, codes, limit)
        for state in level:
            found[state] = True
        position += 1
    return None


def _tells_apart(searchers, state, position):
    """Whether a state tells the patterns apart, if the text ends here."""
    before, *sides = state
    ends = []
    for searcher, side in zip(searchers, sides):
        for (_, candidate), rows in searcher.left(side, before, None, position):
            ends.extend([candidate for _ in rows])
    # Without an end on both sides the guesses do not come true here.
    return len(ends) == len(searchers) and ends[0] != ends[1]


def _next_level(searchers, level, found, position, codes, limit):
    """The states that follow those of a level and are not found yet, each with its least text."""
    following = {}
    for state, text in level.items():
        for code in codes:
            longer = text + character(code)
            for new_state in _states_behind(searchers, state, position, code, limit):
                if new_state not in found:
                    following[new_state] = min(longer, following.get(new_state, longer))
            if len(found) + len(following) > limit:
                raise TooManyStates(f"there are more than {limit} states")
    return following


def _states_behind(searchers, state, position, code, limit):
    """The list of the states that follow a state with a code behind the position."""
    before, *sides = state
    lefts = []
    total = 1
    for searcher, side in zip(searchers, sides):
        left = searcher.left(side, before, code, position)
        lefts.append(left)
        total = total * sum([len(rows) for _, rows in left])
    # All of these states are different, so there is no answer if they are too many.
    if total > limit:
        raise TooManyStates(f"there are more than {limit} states")
    states = []
    for first_step, first_rows in lefts[0]:
        for other_step, other_rows in lefts[1]:
            first_rest, other_rest = ranked((first_step, other_step))
            states.extend([
                (code, (first_entries, *first_rest), (other_entries, *other_rest))
                for first_entries in first_rows
                for other_entries in other_rows
            ])
    return states
