"""The characters of texts."""

TEXT_CODES = ((9, 11), (32, 37), (38, 127))

# The characters from the space to the tilde, in the order of their codes, without the one of code 37.
_SIGNS = (
    " !\"#$&'()*+,-./0123456789:;<=>?@"
    "ABCDEFGHIJKLMNOPQRSTUVWXYZ[\\]^_`"
    "abcdefghijklmnopqrstuvwxyz{|}~"
)


def character(code):
    """The character with a code of TEXT_CODES."""
    if code == 9:
        return "\t"
    if code == 10:
        return "\n"
    if code < 37:
        return _SIGNS[code - 32]
    return _SIGNS[code - 33]


def is_digit(sign):
    """Whether a text of at most one character is a digit."""
    return "0" <= sign <= "9"


def is_letter(sign):
    """Whether a text of at most one character is a letter."""
    return "A" <= sign <= "Z" or "a" <= sign <= "z"


def is_sign(sign):
    """Whether a text of at most one character is a sign: neither a letter nor a digit."""
    return " " <= sign <= "~" and not is_letter(sign) and not is_digit(sign)
