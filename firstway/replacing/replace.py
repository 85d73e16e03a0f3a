"""Replacing the matches of a pattern in a text, and splitting a text at them."""

from firstway.errors import CountError, LengthError
from firstway.replacing.templates import filled, read_template

_RESULT_AT_MOST = 10000


def replace_text(pattern, text, template):
    """The text with all matches of the Pattern replaced by what the template stands for."""
    parts = read_template(template, pattern.names)
    pieces = []
    done = 0
    for match in pattern.find_all(text):
        start, stop, _ = match
        pieces.append(text[done:start])
        pieces.append(filled(parts, text, match))
        done = stop
    pieces.append(text[done:])
    result = "".join(pieces)
    if len(result) > _RESULT_AT_MOST:
        raise LengthError(f"{len(result)} characters, but at most {_RESULT_AT_MOST} are allowed")
    return result


def cuts_of(text, matches):
    """The list of those matches at which the text is cut."""
    cuts = []
    done = 0
    for match in matches:
        start, stop, _ = match
        if start < stop or start not in (done, len(text)):
            cuts.append(match)
            done = stop
    return cuts


def split_text(pattern, text, *, limit=None):
    """The list of the pieces of the text between its cuts, or of the first ones up to a limit."""
    if limit is not None and limit < 0:
        raise CountError(f"the limit {limit} is less than 0")
    pieces = []
    done = 0
    for start, stop, _ in cuts_of(text, pattern.find_all(text)):
        pieces.append(text[done:start])
        done = stop
    pieces.append(text[done:])
    return pieces if limit is None else pieces[:limit]
