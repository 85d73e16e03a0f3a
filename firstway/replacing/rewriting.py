"""Replacing the matches of a pattern of a document by edits."""

from firstway.positions import check_position
from firstway.replacing.templates import filled, read_template


def edits_for(text, matches, parts):
    """The list of the edits that replace the matches of a list, the last match first."""
    edits = []
    for match in reversed(matches):
        start, stop, _ = match
        edits.append((start, stop - start, filled(parts, text, match)))
    return edits


def replace_all(document, number, template):
    """Replaces all matches of a pattern of a Document; returns how many there were."""
    return replace_from(document, number, 0, template)


def replace_from(document, number, position, template):
    """Replaces those matches that start at the position or behind it; returns how many."""
    pattern = document.pattern_of(number)
    check_position(document.text, position)
    parts = read_template(template, pattern.names)
    matches = [match for match in document.matches(number) if match[0] >= position]
    document.edit_all(edits_for(document.text, matches, parts))
    return len(matches)
