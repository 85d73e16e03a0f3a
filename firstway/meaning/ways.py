"""The ways of a pattern tree: its one meaning."""

from firstway.meaning.finder import Finder


def ways(tree, text, position, *, held, backward=False):
    """The ordered list of ways of a tree from a position, as tuples (end, groups)."""
    return Finder(tree, text, backward).ways_from(position, held)
