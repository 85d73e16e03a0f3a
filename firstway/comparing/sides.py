"""The sides of a comparison: what the search with one of the patterns knows at a position.

A side is a tuple of its look states, its threads and its candidate. Threads have registers without
marks here, and of a candidate there are only its start, its stop and its groups.
"""

from firstway.comparing.guesses import guessable
from firstway.comparing.turns import LookTurns, ways_to_leave
from firstway.threads.cores import fresh
from firstway.threads.runs import advanced, begun
from firstway.threads.spots import Spot


class Searcher:
    """Searches with a prepared pattern from position 0, for all texts of these codes."""

    def __init__(self, prepared, codes, limit):
        self._prepared = prepared
        self._limit = limit
        self._turns = [LookTurns(look) for look in prepared.looks]
        self._guesses = []
        for number, look in enumerate(prepared.looks):
            self._guesses.append(guessable(prepared, number, codes, limit) if look.ahead else [])

    def first_side(self):
        """The side at position 0."""
        entries = tuple([None if look.ahead else () for look in self._prepared.looks])
        return (entries, (), None)

    def left(self, side, before, after, position):
        """What can follow a side behind a step at the position: a list of tuples of the threads
        with the candidate, and the list of the look states that can go with them.

        If there are more look states than the limit, only one more than the limit are found.
        """
        guesses = self._guesses if after is not None else [[()] for _ in self._guesses]
        ways = ways_to_leave(self._turns, side[0], before, after, guesses, self._limit)
        entries_by_bits = {}
        for bits, entries in ways:
            entries_by_bits.setdefault(bits, []).append(entries)
        found = []
        for bits, rows in entries_by_bits.items():
            found.append((self._stepped(side, Spot(position, before, after, bits)), rows))
        return found

    def _stepped(self, side, spot):
        """The threads and the candidate behind a step at the spot."""
        _, threads, candidate = side
        registers = fresh(self._prepared)
        whole = [(start, number, (*held, registers[2])) for start, number, held in threads]
        if candidate is not None:
            start, stop, groups = candidate
            candidate = (start, stop, (None, groups, None))
        whole = begun(whole, candidate, spot.position, registers)
        following, candidate = advanced(self._prepared.core, whole, candidate, spot)
        if candidate is not None:
            start, stop, held = candidate
            candidate = (start, stop, held[1])
        return (tuple([(start, number, held[:2]) for start, number, held in following]), candidate)


def ranked(pair):
    """A pair of threads and candidates, with the number of different lesser positions in the
    place of each position."""
    positions = {}
    for threads, candidate in pair:
        for start, _, (opened, groups) in threads:
            _note_all(positions, (start, *opened))
            _note_spans(positions, groups)
        if candidate is not None:
            start, stop, groups = candidate
            _note_all(positions, (start, stop))
            _note_spans(positions, groups)
    ranks = {None: None}
    for position in sorted(positions):
        ranks[position] = len(ranks) - 1
    return [_with_ranks(threads, candidate, ranks) for threads, candidate in pair]


def _note_all(positions, row):
    """Notes the positions of a row, each of which may be None."""
    for position in row:
        if position is not None:
            positions[position] = True


def _note_spans(positions, groups):
    """Notes the positions that groups hold."""
    for span in groups:
        if span is not None:
            _note_all(positions, span)


def _with_ranks(threads, candidate, ranks):
    """The threads and the candidate with ranks in the place of positions."""
    new_threads = []
    for start, number, (opened, groups) in threads:
        new_opened = tuple([ranks[position] for position in opened])
        new_threads.append((ranks[start], number, (new_opened, _spans_with_ranks(groups, ranks))))
    if candidate is not None:
        start, stop, groups = candidate
        candidate = (ranks[start], ranks[stop], _spans_with_ranks(groups, ranks))
    return (tuple(new_threads), candidate)


def _spans_with_ranks(groups, ranks):
    """What groups hold, with ranks in the place of positions."""
    spans = []
    for span in groups:
        spans.append(None if span is None else (ranks[span[0]], ranks[span[1]]))
    return tuple(spans)
