"""Rewriting pattern trees into simpler ones with the same meaning."""

from firstway.meaning.walks import bottom_up
from firstway.simpler.joins import EMPTY, NEVER, joined
from firstway.simpler.shelf import Shelf, row_parts, with_parts


def tree_size(tree):
    """The number of all trees in the tree, itself included."""
    return len(bottom_up(tree))


def simplify(tree):
    """The tree, simplified once."""
    simplifier = Simplifier()
    number = simplifier.shelf.put(tree)
    return simplifier.shelf.take(simplifier.simplified(number))


def simplest(tree):
    """The tree, simplified as many times as its size says."""
    simplifier = Simplifier()
    number = simplifier.shelf.put(tree)
    for _ in range(tree_size(tree)):
        simpler = simplifier.simplified(number)
        if simpler == number:
            break
        number = simpler
    return simplifier.shelf.take(number)


class Simplifier:
    """Simplifies trees on a shelf, each one once."""

    def __init__(self):
        self.shelf = Shelf()
        self.known = {}

    def simplified(self, number):
        """The number of the tree that a tree is simplified to."""
        missing = self.shelf.needed(number, self.known)
        for part in missing:
            self.known[part] = self._rewritten(self.shelf.rows[part])
        return self.known[number]

    def _rewritten(self, row):
        """The rules of its kind for a row, whose parts have been simplified."""
        kind = row[0]
        below = [self.known[part] for part in row_parts(row)]
        if kind in ("sequence", "choice"):
            return joined(self.shelf, kind, below)
        if kind == "repeat":
            return self._repeated(row, below[0])
        if kind == "look":
            return self._looked(row, below[0])
        return self.shelf.number_of(with_parts(row, below))

    def _repeated(self, row, part):
        """The rules of a repeat."""
        least, most, greedy = row[2:]
        shelf = self.shelf
        if part == shelf.number_of(EMPTY):
            return part
        if part == shelf.number_of(NEVER):
            return shelf.number_of(EMPTY if least == 0 else NEVER)
        if shelf.bare[part]:
            if most == 0:
                return shelf.number_of(EMPTY)
            if least == 1 and most == 1:
                return part
            if least == 0 and most is None and _is_star(shelf.rows[part], greedy):
                return part
        return shelf.number_of(("repeat", part, least, most, greedy))

    def _looked(self, row, part):
        """The rules of a look."""
        positive = row[2]
        shelf = self.shelf
        if part == shelf.number_of(EMPTY):
            return shelf.number_of(EMPTY if positive else NEVER)
        if part == shelf.number_of(NEVER):
            return shelf.number_of(NEVER if positive else EMPTY)
        return shelf.number_of(("look", row[1], positive, part))


def _is_star(row, greedy):
    """Whether a row is a repeat from 0 without a bound and with this greediness."""
    return row[0] == "repeat" and row[2] == 0 and row[3] is None and row[4] == greedy
