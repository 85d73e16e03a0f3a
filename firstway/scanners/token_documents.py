"""Token documents: texts whose tokens are kept while they are edited."""

from firstway.documents.edits import changed_stretch, edited, shift_of
from firstway.lengths import check_length


class TokenDocument:
    """A text with its tokens.

    They are kept in rows: tuples of a token and the position up to which it has seen.
    """

    def __init__(self, scanner, text):
        check_length(text)
        self.text = text
        self._scanner = scanner
        self._rows, _ = _rows_from(scanner, text, 0, [])
        self.work = len(self._rows)

    def tokens(self):
        """The list of the tokens."""
        return [token for token, _ in self._rows]

    def seen(self):
        """The list of the positions up to which the tokens have seen."""
        return [seen_to for _, seen_to in self._rows]

    def edit(self, position, removed, inserted):
        """Makes an edit; returns how many tokens were found anew."""
        edit = (position, removed, inserted)
        text = edited(self.text, edit)
        kept = []
        movable = []
        # Bits of looks may change far away from the edit, so with looks nothing stays.
        if not self._scanner.has_looks():
            kept = _rows_that_saw(self._rows, position)
            movable = _rows_behind(self._rows, edit)
        begin = kept[-1][0][2] if kept else 0
        made, moved = _rows_from(self._scanner, text, begin, movable)
        self.text = text
        self._rows = kept + made + moved
        self.work = len(made)
        return self.work


def _rows_that_saw(rows, position):
    """The first rows, as long as their tokens have seen nothing behind the position."""
    kept = []
    for token, seen_to in rows:
        if seen_to > position:
            return kept
        kept.append((token, seen_to))
    return kept


def _rows_behind(rows, edit):
    """The rows of the old text as rows of the new one, where they begin behind the changed
    positions."""
    _, last = changed_stretch(edit)
    shift = shift_of(edit)
    moved = []
    for (name, start, stop), seen_to in rows:
        if start + shift > last:
            moved.append(((name, start + shift, stop + shift), seen_to + shift))
    return moved


def _rows_from(scanner, text, begin, movable):
    """Two lists of rows: those that are found anew from a position on, up to the end of the text
    or to the first one at which a movable row begins, and from there on the movable rows."""
    indexes = {row[0][1]: index for index, row in enumerate(movable)}
    views = scanner.views(text)
    made = []
    while begin < len(text) and begin not in indexes:
        token, seen_to = scanner.token_from(views, len(text), begin)
        made.append((token, seen_to))
        begin = token[2]
    return (made, movable[indexes[begin]:] if begin in indexes else [])
