"""Matches straight from the meaning of a pattern tree."""

from firstway.meaning.finder import Finder
from firstway.meaning.patterns import inner_groups


class Matcher:
    """A tree in a text; what is found for one position also serves the others."""

    def __init__(self, tree, text):
        self.finder = Finder(tree, text, False)
        self.nothing = (None,) * len(inner_groups(tree))
        self.length = len(text)

    def match_at(self, position):
        """The match at the position, or None."""
        way = self.finder.first_from(position, self.nothing)
        if way is None:
            return None
        return (position, way[0], way[1])

    def search(self, position):
        """The match at the least position from this one on, or None."""
        for start in range(position, self.length + 1):
            found = self.match_at(start)
            if found is not None:
                return found
        return None


def plain_match(tree, text, position):
    """The match of the tree at the position, or None."""
    return Matcher(tree, text).match_at(position)


def plain_search(tree, text, position):
    """The match that is found by searching from the position, or None."""
    return Matcher(tree, text).search(position)


def plain_all(tree, text):
    """The list of all matches of the tree in the text."""
    matcher = Matcher(tree, text)
    matches = []
    found = matcher.search(0)
    while found is not None:
        matches.append(found)
        start, stop, _ = found
        found = matcher.search(stop + 1 if start == stop else stop)
    return matches
