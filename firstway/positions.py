"""Positions that callers give."""

from firstway.errors import PositionError


def check_position(text, position):
    """Refuses what is no position of the text."""
    if not 0 <= position <= len(text):
        raise PositionError(f"{position} is no position of a text of {len(text)} characters")
