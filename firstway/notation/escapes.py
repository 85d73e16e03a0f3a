"""Escapes: a backslash and what belongs to it."""

from firstway.errors import PatternError
from firstway.sets.characters import is_sign
from firstway.sets.named import DIGITS, WHITE, WORD
from firstway.sets.ranges import complement

_CODES = {"n": 10, "t": 9}
_ANCHORS = {"A": "text_start", "z": "text_end", "b": "word_boundary", "B": "no_word_boundary"}
_HEXADECIMAL = "0123456789abcdef"


def read_escape(source, at, *, in_class):
    """Reads the escape whose backslash has the index `at`.

    Returns a tuple of "code", "set" or "anchor", the code, set or name, and the index behind it.
    """
    letter = source[at + 1:at + 2]
    if letter == "":
        raise PatternError(at + 2, "a character behind the backslash")
    if letter == "x":
        return ("code", _hexadecimal_code(source, at + 2), at + 4)
    if letter in _CODES:
        return ("code", _CODES[letter], at + 2)
    if is_sign(letter):
        return ("code", ord(letter), at + 2)
    codes = _named_set(letter)
    if codes is not None:
        return ("set", codes, at + 2)
    if letter in _ANCHORS and not in_class:
        return ("anchor", _ANCHORS[letter], at + 2)
    raise PatternError(at + 2, "a known escape")


def _hexadecimal_code(source, at):
    """The code that the two digits from the index on give."""
    high = source[at:at + 1]
    if not "0" <= high <= "7":
        raise PatternError(at + 1, "a digit from 0 to 7")
    low = source[at + 1:at + 2].lower()
    if low == "" or low not in _HEXADECIMAL:
        raise PatternError(at + 2, "a hexadecimal digit")
    return 16 * int(high) + _HEXADECIMAL.index(low)


def _named_set(letter):
    """The set of the escape with this letter, or None."""
    named = {"d": DIGITS, "s": WHITE, "w": WORD}
    codes = named.get(letter.lower())
    if codes is not None and letter.isupper():
        return complement(codes)
    return codes
