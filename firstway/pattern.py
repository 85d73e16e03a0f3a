"""Patterns that are read from sources and matched by threads."""

from firstway.notation.printer import print_pattern
from firstway.notation.reader import read_pattern
from firstway.positions import check_position
from firstway.threads.cores import prepare
from firstway.threads.matching import match_from, match_of
from firstway.threads.passes import view_of
from firstway.threads.runs import next_begin, search


class Pattern:
    """A source with its flags, what was read of it, and its prepared pattern."""

    def __init__(self, source, *, flags=""):
        self.source = source
        self.flags = flags
        self.tree, self.names = read_pattern(source, flags)
        self.prepared = prepare(self.tree)
        self._printed_tree = print_pattern(self.tree, self.names)

    @property
    def printed(self):
        """The pattern as it is printed."""
        return self._printed_tree

    def match_at(self, text, position):
        """The match at the position, or None."""
        check_position(text, position)
        return match_from(self.prepared, view_of(self.prepared, text), position)

    def search(self, text, position=0):
        """The match at the least position from this one on, or None."""
        check_position(text, position)
        view = view_of(self.prepared, text)
        candidate = search(self.prepared, view, position)[1]
        if candidate is None:
            return None
        return match_of(self.prepared, view, candidate)

    def find_all(self, text):
        """The list of all matches of the text."""
        return list(self.each_match(text))

    def each_match(self, text):
        """Yields all matches of the text, one at a time."""
        view = view_of(self.prepared, text)
        candidate = search(self.prepared, view, 0)[1]
        while candidate is not None:
            yield match_of(self.prepared, view, candidate)
            candidate = search(self.prepared, view, next_begin(candidate))[1]
