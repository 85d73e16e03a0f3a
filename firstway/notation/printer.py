"""Printing sets, pattern trees and texts so that they can be read again."""

from firstway.sets.characters import TEXT_CODES, character, is_digit, is_letter
from firstway.sets.named import DIGITS, IN_LINE, WHITE, WORD
from firstway.sets.ranges import complement, contains, size

_ANCHORS = {
    "text_start": "\\A",
    "text_end": "\\z",
    "line_start": "^",
    "line_end": "$",
    "word_boundary": "\\b",
    "no_word_boundary": "\\B",
}


def _print_code(code):
    """A code as a character or an escape."""
    if code < 32 or not contains(TEXT_CODES, code):
        return "\\x" + f"{code:02x}"
    sign = character(code)
    if is_letter(sign) or is_digit(sign) or sign in "_ ":
        return sign
    return "\\" + sign


def _print_range(low, high):
    """A range as it is written in a class."""
    if high - low == 1:
        return _print_code(low)
    return _print_code(low) + "-" + _print_code(high - 1)


def print_set(codes):
    """The set as a text."""
    if size(codes) == 1:
        return _print_code(codes[0][0])
    if codes == IN_LINE:
        return "."
    for letter, named in (("d", DIGITS), ("s", WHITE), ("w", WORD)):
        if codes == named:
            return "\\" + letter
        if codes == complement(named):
            return "\\" + letter.upper()
    return "[" + "".join([_print_range(low, high) for low, high in codes]) + "]"


def quote(text):
    """The text as a pattern that matches it."""
    return "".join([_print_code(ord(sign)) for sign in text])


def _bracketed(tree, kinds):
    """A tree as a list of what is printed, in brackets if it is of one of the kinds."""
    if tree[0] in kinds:
        return ["(?:", tree, ")"]
    return [tree]


def _print_counts(least, most, greedy):
    """The token of a repeat."""
    if most is None and least < 2:
        written = "+" if least else "*"
    elif most is None:
        written = "{" + str(least) + ",}"
    elif least == most:
        written = "{" + str(least) + "}"
    elif most == 1:
        written = "?"
    else:
        written = "{" + str(least) + "," + str(most) + "}"
    if greedy:
        return written
    return written + "?"


def _print_opening(tree, names):
    """The opening bracket of a group or a look."""
    if tree[0] == "group":
        name = names[tree[1]]
        return "(" if name is None else f"(?<{name}>"
    direction = "" if tree[1] else "<"
    return "(?" + direction + ("=" if tree[2] else "!")


def _pieces(tree, names):
    """The texts and trees that are printed for a tree, one behind another."""
    kind = tree[0]
    if kind == "empty":
        return []
    if kind == "set":
        return [print_set(tree[1])]
    if kind == "anchor":
        return [_ANCHORS[tree[1]]]
    if kind == "sequence":
        first = _bracketed(tree[1], ("empty", "sequence", "choice"))
        return first + _bracketed(tree[2], ("empty", "choice"))
    if kind == "choice":
        return [*_bracketed(tree[1], ("choice",)), "|", tree[2]]
    if kind == "repeat":
        repeated = _bracketed(tree[1], ("empty", "sequence", "choice", "repeat"))
        return [*repeated, _print_counts(tree[2], tree[3], tree[4])]
    return [_print_opening(tree, names), tree[-1], ")"]


def print_pattern(tree, names):
    """The tree, with the names of its groups, as a text."""
    printed = []
    todo = [tree]
    while todo:
        piece = todo.pop()
        if isinstance(piece, str):
            printed.append(piece)
        else:
            pieces = _pieces(piece, names)
            pieces.reverse()
            todo.extend(pieces)
    return "".join(printed)
