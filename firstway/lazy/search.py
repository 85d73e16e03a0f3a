"""Lazy searches: the steps of the automaton are computed when they are needed, and kept."""

from firstway.lazy.automaton import first_state, next_state
from firstway.lazy.cache import StepCache
from firstway.lazy.reverse import least_start
from firstway.lazy.signs import telling
from firstway.positions import check_position
from firstway.threads.matching import match_from
from firstway.threads.passes import view_of


class LazySearch:
    """A lazy search for a Pattern, with one cache for all texts."""

    def __init__(self, pattern, *, bound=100):
        self.cache = StepCache(bound)
        self.pattern = pattern
        self.computed = 0

    def search(self, text, position=0):
        """The match at the least position from this one on, or None."""
        check_position(text, position)
        prepared = self.pattern.prepared
        view = view_of(prepared, text)
        stop, _ = self.stop_from(view, position)
        if stop is None:
            return None
        return match_from(prepared, view, least_start(prepared.core, view, position, stop))

    def stop_from(self, view, position):
        """Where the match stops that is found from the position, or None, and the reach."""
        core = self.pattern.prepared.core
        state = first_state()
        stop = None
        over = False
        while not over:
            state, ends = self._outcome_at(core, view.spot(position), state)
            if ends:
                stop = position
            position += 1
            entries, has_candidate = state
            over = position > len(view.text) or (has_candidate and not entries)
        return (stop, position)

    def _outcome_at(self, core, spot, state):
        """The outcome of a step from the state at the spot, from the cache if it is there."""
        question = (state, telling(core, spot))
        known = self.cache.outcome(question)
        if known is not None:
            return known
        computed = next_state(core, spot, state)
        self.computed += 1
        self.cache.learn(question, computed)
        return computed

    def forget(self, keep):
        """Keeps the latest items of the cache, so many; returns the number of removed items."""
        return self.cache.keep_latest(keep)

    def item_total(self):
        """The number of items in the cache."""
        return len(self.cache.questions())

    def step_total(self):
        """The number of steps that were computed since the object was made."""
        return self.computed
