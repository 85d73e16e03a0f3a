"""Saving documents as texts, and loading them."""

from firstway.documents.document import PATTERNS_AT_MOST, Document
from firstway.documents.edits import edited
from firstway.errors import CountError, LengthError, PatternError, PositionError, SavedTextError
from firstway.pattern import Pattern
from firstway.saving.words import SavedReader, write_number, write_text

_HEAD = "firstway 1\n"


def save(document):
    """The saved text of a Document."""
    numbers = document.numbers()
    pieces = [_HEAD, write_text(document.text), write_number(document.next_number), write_number(len(numbers))]
    for number in numbers:
        pieces.append(write_number(number))
        pieces.append(write_text(document.pattern_of(number).printed))
    return "".join(pieces) + _written_edits(document.undo_edits) + _written_edits(document.redo_edits)


def _written_edits(edits):
    """The written form of a list of edits."""
    pieces = [write_number(len(edits))]
    for position, removed, inserted in edits:
        pieces.append(write_number(position) + write_number(removed) + write_text(inserted))
    return "".join(pieces)


def load(text):
    """The Document of a saved text."""
    reader = SavedReader(text)
    reader.take_head(_HEAD)
    document = _empty_document(reader.take_text())
    next_number = reader.take_number()
    patterns = _read_patterns(reader, next_number)
    undo_edits = _read_edits(reader, document.text)
    redo_edits = _read_edits(reader, document.text)
    if not reader.at_end():
        raise SavedTextError("something stands behind the document")
    document.restore(patterns, next_number, undo_edits, redo_edits)
    return document


def _empty_document(text):
    """A Document with the text alone."""
    try:
        return Document(text)
    except LengthError:
        raise SavedTextError("the text of the document is too long") from None


def _read_patterns(reader, next_number):
    """The list of the patterns, tuples of a number and a Pattern, that comes next."""
    count = reader.take_number()
    if count > PATTERNS_AT_MOST:
        raise SavedTextError("there are too many patterns")
    patterns = []
    least = 0
    for _ in range(count):
        number = reader.take_number()
        if not least <= number < next_number:
            raise SavedTextError(f"the number {number} is out of its place")
        least = number + 1
        patterns.append((number, _printed_pattern(reader.take_text())))
    return patterns


def _printed_pattern(source):
    """The Pattern of a source that is written as it is printed."""
    try:
        pattern = Pattern(source, flags="m")
    except PatternError:
        raise SavedTextError("a text of a pattern is no pattern") from None
    if pattern.printed != source:
        raise SavedTextError("a pattern is printed otherwise")
    return pattern


def _read_edits(reader, text):
    """The list of edits that comes next; from the last one on, they must fit the text."""
    edits = []
    for _ in range(reader.take_number()):
        position = reader.take_number()
        removed = reader.take_number()
        edits.append((position, removed, reader.take_text()))
    for edit in reversed(edits):
        try:
            text = edited(text, edit)
        except (PositionError, CountError, LengthError):
            raise SavedTextError("an edit does not fit the text") from None
    return edits
