"""Finding the ways of a tree in a text, each list of ways once and without recursion."""

from firstway.meaning.anchors import anchor_holds
from firstway.meaning.changes import both, changed, clearing
from firstway.meaning.plans import make_plan
from firstway.sets.ranges import contains


class Finder:
    """The ways of a tree in one text and one direction, kept as soon as they are known."""

    def __init__(self, tree, text, backward):
        self.rows = make_plan(tree, backward)
        self.codes = [ord(sign) for sign in text]
        self.known = {}

    def ways_from(self, position, held):
        """The list of ways of the tree from a position, with the contents of the groups."""
        return [(end, changed(held, change)) for end, change in self._solved(position)]

    def first_from(self, position, held):
        """The first way of the tree from a position, or None."""
        found = self._solved(position)
        if not found:
            return None
        end, change = found[0]
        return (end, changed(held, change))

    def _solved(self, position):
        """Pairs of an end and a change; what they need is found before them."""
        goal = (len(self.rows) - 1, position)
        todo = [goal]
        while todo:
            number, place = todo[-1]
            missing = self._missing(number, place)
            if missing:
                todo.extend(missing)
                continue
            todo.pop()
            if (number, place) not in self.known:
                self.known[number, place] = self._found(number, place)
        return self.known[goal]

    def _missing(self, number, position):
        """What must be known before the ways of a row from a position, as far as can be told."""
        if (number, position) in self.known:
            return []
        row = self.rows[number]
        kind = row[0]
        if kind in ("sequence", "further"):
            goals = self._chained(row, position)
        elif kind == "choice":
            goals = [(row[2], position), (row[1], position)]
        elif kind in ("group", "look", "iteration"):
            goals = [(row[-1], position)]
        else:
            goals = []
        return [goal for goal in goals if goal not in self.known]

    def _chained(self, row, position):
        """What a row of two rows needs, the second one behind each end of the first one."""
        if (row[1], position) not in self.known:
            return [(row[1], position)]
        ends = [end for end, _ in self.known[row[1], position]]
        return [(row[2], end) for end in ends if row[0] == "sequence" or end != position]

    def _found(self, number, position):
        """The ways of a row from a position, once all that it needs is known."""
        row = self.rows[number]
        kind = row[0]
        if kind == "set":
            return self._set_ways(row, position)
        if kind in ("sequence", "further"):
            return self._chain_ways(row, position)
        if kind == "choice":
            return _once(self.known[row[1], position] + self.known[row[2], position])
        if kind == "group":
            return _group_ways(row[1], position, self.known[row[2], position])
        if kind == "look":
            return _look_ways(row, position, self.known[row[3], position])
        if kind == "iteration":
            cleared = clearing(row[1])
            return [(end, both(cleared, change)) for end, change in self.known[row[2], position]]
        if kind == "anchor" and not self._holds(row[1], position):
            return []
        return [(position, None)]

    def _code(self, index):
        """The code of the character with an index, or None beyond the ends of the text."""
        if 0 <= index < len(self.codes):
            return self.codes[index]
        return None

    def _holds(self, name, position):
        """Whether the anchor holds at a position."""
        return anchor_holds(name, self._code(position - 1), self._code(position))

    def _set_ways(self, row, position):
        """The ways of a set."""
        _, codes, backward = row
        code = self._code(position - 1 if backward else position)
        if code is None or not contains(codes, code):
            return []
        return [(position - 1 if backward else position + 1, None)]

    def _chain_ways(self, row, position):
        """The ways of a sequence, or of what may follow the iterations of a repeat."""
        further = row[0] == "further"
        ways_by_end = {}
        if further and not row[3]:
            ways_by_end[position] = None
        for middle, earlier in self.known[row[1], position]:
            if further and middle == position:
                continue
            for end, later in self.known[row[2], middle]:
                if end not in ways_by_end:
                    ways_by_end[end] = both(earlier, later)
        if further and row[3]:
            ways_by_end[position] = None
        return list(ways_by_end.items())


def _once(found):
    """The ways of a list without those that end where a way before them ends."""
    ways_by_end = {}
    for end, change in found:
        if end not in ways_by_end:
            ways_by_end[end] = change
    return list(ways_by_end.items())


def _group_ways(group, position, found):
    """The ways of a group, from those of its part."""
    return [
        (end, both(change, ("hold", group, (min(position, end), max(position, end)))))
        for end, change in found
    ]


def _look_ways(row, position, found):
    """The ways of a look, from those of its part."""
    positive = row[1]
    if bool(found) != positive:
        return []
    if not positive:
        return [(position, None)]
    return [(position, both(clearing(row[2]), found[0][1]))]
