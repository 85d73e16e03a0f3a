"""Where anchors hold."""

from firstway.sets.named import LINE_ENDS, WORD
from firstway.sets.ranges import contains


def _is_in(codes, code):
    """Whether there is a code and it is in the set."""
    return code is not None and contains(codes, code)


def anchor_holds(name, before, after):
    """Whether the anchor holds between two codes; None stands for no character."""
    if name == "text_start":
        return before is None
    if name == "text_end":
        return after is None
    if name == "line_start":
        return before is None or contains(LINE_ENDS, before)
    if name == "line_end":
        return after is None or contains(LINE_ENDS, after)
    at_border = _is_in(WORD, before) != _is_in(WORD, after)
    if name == "word_boundary":
        return at_border
    return not at_border
