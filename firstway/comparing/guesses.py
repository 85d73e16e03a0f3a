"""Guessing what lookaheads will find, and leaving positions with the guesses."""

from firstway.comparing.turns import LookTurns, ways_to_leave
from firstway.errors import TooManyStates


def guessable(prepared, look, codes, limit):
    """The list of the states that can be guessed for the lookahead with this number, ascending."""
    turns = LookTurns(prepared.looks[look])
    spots = _spots(turns, look, codes)
    found = {(): True}
    level = [()]
    while level:
        following = []
        for state in level:
            for before, after, bits in spots:
                new_state, _ = turns.step(before, after, bits, state)
                if new_state not in found:
                    found[new_state] = True
                    following.append(new_state)
            if len(found) > limit:
                raise TooManyStates(f"more than {limit} states can be guessed")
        level = following
    return sorted(found)


def _spots(turns, look, codes):
    """What can stand around a position: a list of tuples (before, after, bits), one of each kind."""
    befores = {}
    afters = {}
    for code in [None, *codes]:
        befores.setdefault(turns.kind_before(code), code)
        afters.setdefault(turns.kind_behind(code), code)
    rows = [(False,) * look]
    for number in turns.asked:
        rows = rows + [(*row[:number], True, *row[number + 1:]) for row in rows]
    return [
        (before, after, row)
        for before in befores.values()
        for after in afters.values()
        for row in rows
    ]


def left_with(prepared, entries, before, after, guesses):
    """The list of all ways to leave a position: tuples (bits, entries at the next position)."""
    turns = [LookTurns(look) for look in prepared.looks]
    return ways_to_leave(turns, entries, before, after, guesses, None)
