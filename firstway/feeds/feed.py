"""Feeds: texts that come in pieces, of which each match is told as soon as it is certain."""

from firstway.errors import FeedEnded
from firstway.feeds.ends import decided, opening
from firstway.feeds.possible import shortest_left
from firstway.lengths import check_length
from firstway.meaning.walks import bottom_up
from firstway.threads.cores import fresh
from firstway.threads.matching import match_of, matches_of
from firstway.threads.passes import view_of
from firstway.threads.runs import Run, begun, next_begin, searches_from
from firstway.threads.spots import View

# The other anchors hold or not whatever comes behind the position.
_ANCHORS_THAT_WAIT = ("text_end", "line_end", "word_boundary", "no_word_boundary")


class Feed:
    """A feed of a Pattern: it is given a text in pieces and tells the matches of the whole."""

    def __init__(self, pattern):
        self.pattern = pattern
        self._anchors = [tree[1] for tree in bottom_up(pattern.tree) if tree[0] == "anchor"]
        self._left = shortest_left(pattern.prepared.core)
        self._text = ""
        self._has_begun = False
        self._has_ended = False
        self._run = self._run_from(0)

    def push(self, piece):
        """Puts a text behind what has come; returns the list of the matches that are told now."""
        self._check_going()
        check_length(self._text + piece)
        self._text = self._text + piece
        self._has_begun = True
        prepared = self.pattern.prepared
        if prepared.looks:
            return []
        view = View(self._text, [])
        told = []
        candidate = self._next_certain(view)
        while candidate is not None:
            told.append(match_of(prepared, view, candidate))
            self._run = self._run_from(next_begin(candidate))
            candidate = self._next_certain(view)
        return told

    def finish(self):
        """Ends the text; returns the list of the matches that have not been told."""
        self._check_going()
        self._has_ended = True
        prepared = self.pattern.prepared
        view = view_of(prepared, self._text)
        return matches_of(prepared, view, searches_from(prepared, view, self._run.first_position))

    def held(self):
        """The position before which no match begins that has not been told."""
        if self._has_ended:
            return len(self._text)
        for start, number, _ in self._run.threads:
            if self._left[number] is not None:
                return start
        return self._run.position

    def doubt(self):
        """A text behind which, at the end, the next match would begin at the held position and
        stop at the end; None where the document promises no such text."""
        if not self._has_begun or self._has_ended:
            return None
        if self.pattern.prepared.looks or self._anchors or self._left[None] is None:
            return None
        view = View(self._text, [])
        if self._run.position > len(self._text):
            # The next match begins behind a character that has not come; it may be any.
            return " " + self._left[None]
        number = self._decided_at_end(view)[1]
        return opening(self.pattern.prepared.core, number, self._left)

    def _check_going(self):
        """Refuses what is done behind the end."""
        if self._has_ended:
            raise FeedEnded("the feed is at its end")

    def _run_from(self, position):
        """The run of a search from a position."""
        prepared = self.pattern.prepared
        return Run(prepared.core, fresh(prepared), position, renewing=True)

    def _next_certain(self, view):
        """The candidate of the next match if this is certain, otherwise None."""
        run = self._run
        while run.position < len(view.text):
            run.step(view.spot(run.position))
            if run.candidate is not None and not self._any_possible(run.threads):
                return run.candidate
        if run.position > len(view.text):
            return None
        if any([name in _ANCHORS_THAT_WAIT for name in self._anchors]):
            return None
        first = self._decided_at_end(view)
        if first is None:
            return run.candidate
        start, number, registers = first
        return (start, run.position, registers) if number is None else None

    def _any_possible(self, threads):
        """Whether some text could be taken by what is left for one of the threads."""
        return any([self._left[thread[1]] is not None for thread in threads])

    def _decided_at_end(self, view):
        """What the threads do first at the end of what has come, where the search stands."""
        run = self._run
        threads = begun(run.threads, run.candidate, run.position, run.registers)
        return decided(run.core, threads, view.spot(run.position), self._left)
