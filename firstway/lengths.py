"""How long texts may be."""

from firstway.errors import LengthError

_LENGTH_AT_MOST = 100


def check_length(text):
    """Refuses a text that is too long."""
    if len(text) > _LENGTH_AT_MOST:
        raise LengthError(f"{len(text)} characters, but at most {_LENGTH_AT_MOST} are allowed")
