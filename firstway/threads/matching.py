"""Matches: candidates with what the groups within lookarounds hold."""

from firstway.threads.cores import fresh
from firstway.threads.runs import first_way


def match_of(prepared, view, candidate):
    """The match of a candidate."""
    start, stop, registers = candidate
    groups = list(registers[1])
    marks = _marks_in(registers)
    while marks:
        look, mark = marks.pop()
        _, held = first_way(prepared.looks[look].body, fresh(prepared), view, mark)
        for group, span in enumerate(held[1]):
            if span is not None:
                groups[group] = span
        marks.extend(_marks_in(held))
    return (start, stop, tuple(groups))


def _marks_in(registers):
    """The looks that have a mark, in a list of tuples with their marks."""
    return [(look, mark) for look, mark in enumerate(registers[2]) if mark is not None]


def matches_of(prepared, view, found):
    """The matches of the candidates of a list of searches, in order."""
    return [match_of(prepared, view, row[1]) for row in found if row[1] is not None]


def match_from(prepared, view, position):
    """The match at a position, or None."""
    way = first_way(prepared.core, fresh(prepared), view, position)
    if way is None:
        return None
    end, registers = way
    return match_of(prepared, view, (position, end, registers))
