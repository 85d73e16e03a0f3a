"""Edits of texts: tuples of a position, a number of removed characters and an inserted text."""

from firstway.errors import CountError
from firstway.lengths import check_length
from firstway.positions import check_position


def edited(text, edit):
    """The text behind the edit."""
    position, removed, inserted = edit
    check_position(text, position)
    if not 0 <= removed <= len(text) - position:
        raise CountError(f"{removed} characters cannot be removed behind position {position}")
    changed = text[:position] + inserted + text[position + removed:]
    check_length(changed)
    return changed


def opposite(text, edit):
    """The edit that leads back to the text, from what the edit makes of it."""
    # An edit that does not fit the text has no opposite.
    edited(text, edit)
    position, removed, inserted = edit
    return (position, len(inserted), text[position:position + removed])


def shift_of(edit):
    """By how much the positions behind an edit are moved."""
    _, removed, inserted = edit
    return len(inserted) - removed


def changed_stretch(edit):
    """The least and the greatest one of the changed positions."""
    position, _, inserted = edit
    return (position, position + len(inserted))


def old_position(edit, position):
    """The position in the old text of one of the new text, or None for a changed position."""
    first, last = changed_stretch(edit)
    if position < first:
        return position
    if position > last:
        return position - shift_of(edit)
    return None
