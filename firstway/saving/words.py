"""Numbers and texts as they stand in saved texts."""

from firstway.errors import SavedTextError
from firstway.sets.characters import is_digit

_DIGITS_AT_MOST = 9


def write_number(number):
    """The written form of a number that is not negative."""
    return f"{number};"


def write_text(text):
    """The written form of a text."""
    return write_number(len(text)) + text


class SavedReader:
    """Reads a saved text from its beginning."""

    def __init__(self, text):
        self._text = text
        self._at = 0

    def take_head(self, head):
        """Reads exactly these characters."""
        self._at = self._behind(head)

    def take_number(self):
        """Reads a number and returns it."""
        number, self._at = self._number_at()
        return number

    def take_text(self):
        """Reads a text and returns it."""
        length, begin = self._number_at()
        end = begin + length
        if end > len(self._text):
            raise SavedTextError(f"less than {length} characters are left")
        self._at = end
        return self._text[begin:end]

    def at_end(self):
        """Whether everything was read."""
        return self._at == len(self._text)

    def _behind(self, head):
        """The index behind these characters, which come next."""
        end = self._at + len(head)
        if self._text[self._at:end] != head:
            raise SavedTextError(f"{head} does not come next")
        return end

    def _number_at(self):
        """The number that comes next, and the index behind it."""
        end = self._at
        while end - self._at < _DIGITS_AT_MOST and is_digit(self._text[end:end + 1]):
            end += 1
        digits = self._text[self._at:end]
        # Behind the greatest number of digits a further one is refused here, too.
        if digits == "" or self._text[end:end + 1] != ";":
            raise SavedTextError("no number comes next")
        if digits[0] == "0" and digits != "0":
            raise SavedTextError("a number has a leading zero")
        return (int(digits), end + 1)
