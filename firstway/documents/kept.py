"""What a document keeps for a pattern: the passes of its looks and its searches."""

from firstway.documents.edits import changed_stretch, shift_of
from firstway.documents.stretches import moved_search, renew_look
from firstway.threads.matching import matches_of
from firstway.threads.passes import all_passes
from firstway.threads.runs import next_begin, search, searches
from firstway.threads.spots import View


class KeptPattern:
    """The states and bits of the looks of a Pattern at all positions of a text, and its searches.

    The lists that are kept are replaced, never changed, so twins may share them.
    """

    def __init__(self, pattern, text):
        prepared = pattern.prepared
        self.pattern = pattern
        self._states, self._bits = all_passes(prepared, text)
        self._searches = searches(prepared, View(text, self._bits))
        self.effort = (len(prepared.looks) * (len(text) + 1), _steps_of(self._searches))

    def renew(self, text, edit):
        """Changes what is kept to the text behind the edit."""
        prepared = self.pattern.prepared
        states = []
        bits = []
        stretch = changed_stretch(edit)
        visited = 0
        for number, look in enumerate(prepared.looks):
            old_states = _fitted(self._states[number], edit)
            old_bits = _fitted(self._bits[number], edit)
            renewed = renew_look(look, View(text, bits), old_states, old_bits, stretch)
            look_states, look_bits, stretch, look_visited = renewed
            states.append(look_states)
            bits.append(look_bits)
            visited += look_visited
        view = View(text, bits)
        kept, made, moved = _renewed_searches(prepared, view, self._searches, edit, stretch)
        self._states = states
        self._bits = bits
        self._searches = kept + made + moved
        self.effort = (visited, _steps_of(made))

    def contents(self):
        """The states and the bits, a list by position for each look, and the list of searches."""
        states = [list(row) for row in self._states]
        bits = [list(row) for row in self._bits]
        return (states, bits, list(self._searches))

    def found(self, text):
        """The list of all matches; the text is the present one."""
        return matches_of(self.pattern.prepared, View(text, self._bits), self._searches)

    def twin(self):
        """An equal KeptPattern that does not change with this one."""
        other = KeptPattern(self.pattern, "")
        other._states = self._states
        other._bits = self._bits
        other._searches = self._searches
        other.effort = self.effort
        return other


def _steps_of(made):
    """At how many positions the searches have looked."""
    return sum([reach - begin for begin, _, reach in made])


def _fitted(row, edit):
    """A list by position of the old text as one by position of the new text.

    It holds None at the changed positions.
    """
    position, removed, inserted = edit
    return row[:position] + [None] * (len(inserted) + 1) + row[position + removed + 1:]


def _renewed_searches(prepared, view, old, edit, stretch):
    """Three lists of searches: those that stay, those behind them that are made anew, and those
    behind these that are moved."""
    least, greatest = stretch
    shift = shift_of(edit)
    kept = _seen_up_to(old, least)
    made = []
    indexes = {found[0]: index for index, found in enumerate(old)}
    begin = next_begin(kept[-1][1]) if kept else 0
    while begin <= greatest or begin - shift not in indexes:
        made.append(search(prepared, view, begin))
        candidate = made[-1][1]
        if candidate is None:
            return (kept, made, [])
        begin = next_begin(candidate)
    moved = [moved_search(found, shift) for found in old[indexes[begin - shift]:]]
    return (kept, made, moved)


def _seen_up_to(old, least):
    """The first searches, as long as they have looked at nothing from the position on."""
    kept = []
    for found in old:
        if found[2] > least:
            return kept
        kept.append(found)
    return kept
