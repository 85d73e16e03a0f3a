"""The first step of reading a source: it is cut into tokens.

A token is one of these tuples, each with its column:
- ("tree", column, tree): a set or an anchor;
- ("group", column, name or None), ("brackets", column), ("look", column, ahead, positive);
- ("close", column), ("bar", column), ("repeat", column, least, most, greedy).
"""

from firstway.errors import PatternError
from firstway.notation.classes import read_class
from firstway.notation.escapes import read_escape
from firstway.sets.characters import is_digit, is_letter
from firstway.sets.named import EVERY, IN_LINE
from firstway.sets.ranges import folded

_COUNT_AT_MOST = 50
_NAME_AT_MOST = 20


def read_tokens(source, flags):
    """The list of the tokens of a source."""
    tokens = []
    at = 0
    while at < len(source):
        token, at = _read_token(source, at, flags)
        tokens.append(token)
    return tokens


def _read_token(source, at, flags):
    """The token that begins at an index, and the index behind it."""
    sign = source[at]
    if sign == "(":
        return _read_opening(source, at)
    if sign == ")":
        return (("close", at + 1), at + 1)
    if sign == "|":
        return (("bar", at + 1), at + 1)
    if sign in "*+?{":
        return _read_repeat(source, at)
    if sign in "]}":
        raise PatternError(at + 1, "a backslash ahead of this character")
    tree, after = _read_single_tree(source, at, flags)
    return (("tree", at + 1, tree), after)


def _read_single_tree(source, at, flags):
    """The set or anchor that is written from an index on, and the index behind it."""
    sign = source[at]
    if sign == "[":
        codes, after = read_class(source, at, "i" in flags)
        return (("set", codes), after)
    if sign == "\\":
        kind, meaning, after = read_escape(source, at, in_class=False)
        if kind == "code":
            return (_code_tree(meaning, flags), after)
        return ((kind, meaning), after)
    if sign == ".":
        return (("set", EVERY if "s" in flags else IN_LINE), at + 1)
    if sign == "^":
        return (("anchor", "line_start" if "m" in flags else "text_start"), at + 1)
    if sign == "$":
        return (("anchor", "line_end" if "m" in flags else "text_end"), at + 1)
    return (_code_tree(ord(sign), flags), at + 1)


def _code_tree(code, flags):
    """The set of one code, folded if a flag asks for it."""
    codes = ((code, code + 1),)
    if "i" in flags:
        codes = folded(codes)
    return ("set", codes)


def _read_opening(source, at):
    """The token of an opening bracket, and the index behind it."""
    column = at + 1
    if source[at + 1:at + 2] != "?":
        return (("group", column, None), at + 1)
    sign = source[at + 2:at + 3]
    if sign == ":":
        return (("brackets", column), at + 3)
    if sign in ("=", "!"):
        return (("look", column, True, sign == "="), at + 3)
    if sign != "<":
        raise PatternError(at + 3, ": = ! or <")
    sign = source[at + 3:at + 4]
    if sign in ("=", "!"):
        return (("look", column, False, sign == "="), at + 4)
    if not is_letter(sign) and sign != "_":
        raise PatternError(at + 4, "= ! or a name")
    name, after = _read_name(source, at + 3)
    return (("group", column, name), after)


def _read_name(source, at):
    """The name that begins at an index, and the index behind the sign that ends it."""
    end = at
    while end - at < _NAME_AT_MOST and _is_of_name(source[end:end + 1]):
        end += 1
    if source[end:end + 1] != ">":
        raise PatternError(end + 1, "the end of the name")
    return (source[at:end], end + 1)


def _is_of_name(sign):
    """Whether a name may go on with a text of at most one character."""
    return is_letter(sign) or is_digit(sign) or sign == "_"


def _read_repeat(source, at):
    """The token that repeats and begins at an index, and the index behind it."""
    sign = source[at]
    if sign == "{":
        least, most, after = _read_counts(source, at + 1)
    else:
        least = 1 if sign == "+" else 0
        most = 1 if sign == "?" else None
        after = at + 1
    if source[after:after + 1] == "?":
        return (("repeat", at + 1, least, most, False), after + 1)
    return (("repeat", at + 1, least, most, True), after)


def _read_counts(source, at):
    """The counts behind a brace: the least one, the greatest one or None, the index behind all."""
    least, after = _read_count(source, at)
    if least is None:
        raise PatternError(after + 1, "a count")
    if source[after:after + 1] == "}":
        return (least, least, after + 1)
    if source[after:after + 1] != ",":
        raise PatternError(after + 1, "a comma or the end of the count")
    most, after = _read_count(source, after + 1)
    if source[after:after + 1] != "}":
        raise PatternError(after + 1, "the end of the count")
    if most is not None and most < least:
        raise PatternError(after + 1, "a count not less than the first")
    return (least, most, after + 1)


def _read_count(source, at):
    """The number that the digits from an index on give, None without digits; the index behind."""
    count = None
    while is_digit(source[at:at + 1]):
        count = 10 * (count or 0) + int(source[at])
        if count > _COUNT_AT_MOST:
            raise PatternError(at + 1, "a count up to 50")
        at += 1
    return (count, at)
