"""Documents: texts with patterns whose matches are kept while the text is edited."""

from firstway.documents.edits import edited, opposite
from firstway.documents.kept import KeptPattern
from firstway.errors import TooManyPatterns, UnknownPattern
from firstway.lengths import check_length
from firstway.pattern import Pattern

PATTERNS_AT_MOST = 4
_NO_WORK = (0, 0)


class Document:
    """A text, its patterns by number with what is kept for them, and its edits."""

    def __init__(self, text):
        check_length(text)
        self.text = text
        self.work = _NO_WORK
        self.next_number = 0
        self.undo_edits = ()
        self.redo_edits = ()
        self._kept_patterns = {}

    def add(self, source, *, flags=""):
        """Adds a pattern behind the others; returns its number."""
        pattern = Pattern(source, flags=flags)
        if len(self._kept_patterns) == PATTERNS_AT_MOST:
            raise TooManyPatterns(f"there are {PATTERNS_AT_MOST} patterns")
        number = self.next_number
        self.next_number = number + 1
        self._put(number, pattern)
        return number

    def change(self, number, source, *, flags=""):
        """Puts a new pattern in the place of the one with a number."""
        self._kept_of(number)
        self._put(number, Pattern(source, flags=flags))

    def remove(self, number):
        """Removes the pattern with a number."""
        self._kept_of(number)
        del self._kept_patterns[number]
        self.work = _NO_WORK

    def numbers(self):
        """The list of the numbers of the patterns, in the order in which they were added."""
        return list(self._kept_patterns)

    def pattern_of(self, number):
        """The Pattern with a number."""
        return self._kept_of(number).pattern

    def matches(self, number):
        """The list of all matches of the pattern with a number."""
        return self._kept_of(number).found(self.text)

    def kept(self, number):
        """What is kept for the pattern with a number: states, bits and searches."""
        return self._kept_of(number).contents()

    def edit(self, position, removed, inserted):
        """Makes an edit."""
        self.edit_all([(position, removed, inserted)])

    def edit_all(self, edits):
        """Makes the edits of a list, one behind another, or none of them if one does not fit."""
        opposites = []
        text = self.text
        for edit in edits:
            opposites.append(opposite(text, edit))
            text = edited(text, edit)
        works = [self._made(edit) for edit in edits]
        if works:
            self.undo_edits = (*self.undo_edits, *opposites)
            self.redo_edits = ()
        self.work = _sum_of(works)

    def undo(self):
        """Makes the opposite of the latest edit; returns whether there was one."""
        if not self.undo_edits:
            return False
        *left, edit = self.undo_edits
        self.undo_edits = tuple(left)
        self.redo_edits = (*self.redo_edits, opposite(self.text, edit))
        self.work = self._made(edit)
        return True

    def redo(self):
        """Makes the edit again that was undone last; returns whether there was one."""
        if not self.redo_edits:
            return False
        *left, edit = self.redo_edits
        self.redo_edits = tuple(left)
        self.undo_edits = (*self.undo_edits, opposite(self.text, edit))
        self.work = self._made(edit)
        return True

    def fork(self):
        """A new document that is equal to this one and does not change with it."""
        other = Document(self.text)
        other.work = self.work
        other.next_number = self.next_number
        other.undo_edits = self.undo_edits
        other.redo_edits = self.redo_edits
        other._kept_patterns = {number: kept.twin() for number, kept in self._kept_patterns.items()}
        return other

    def restore(self, patterns, next_number, undo_edits, redo_edits):
        """Gives a new document its patterns, the next number and its edits."""
        for number, pattern in patterns:
            self._kept_patterns[number] = KeptPattern(pattern, self.text)
        self.next_number = next_number
        self.undo_edits = tuple(undo_edits)
        self.redo_edits = tuple(redo_edits)

    def _kept_of(self, number):
        """What is kept for the pattern with a number."""
        if number not in self._kept_patterns:
            raise UnknownPattern(f"no pattern has the number {number}")
        return self._kept_patterns[number]

    def _put(self, number, pattern):
        """Computes from nothing what is kept for a pattern and gives it the number."""
        made = KeptPattern(pattern, self.text)
        self._kept_patterns[number] = made
        self.work = made.effort

    def _made(self, edit):
        """Makes an edit that fits the text; returns its work."""
        text = edited(self.text, edit)
        for kept in self._kept_patterns.values():
            kept.renew(text, edit)
        self.text = text
        return _sum_of([kept.effort for kept in self._kept_patterns.values()])


def _sum_of(works):
    """The sum of a list of works."""
    return (sum([visited for visited, _ in works]), sum([steps for _, steps in works]))
