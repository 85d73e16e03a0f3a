"""The layout of a core tree: a place for each tree in it, and what comes behind each place."""

OUT = -1


class Layout:
    """Places by number, from 0 for the whole core tree.

    `trees` has the tree at each place, `behind` the place at which one goes on behind it (OUT
    behind the whole), and `inside` the place of its first part; the second part has the next one.
    Behind the part of a star or a nonempty comes a place ("leave", place of this whole).
    """

    def __init__(self, tree):
        self.trees = []
        self.behind = []
        self.inside = []
        self.set_places = {}
        self._add(tree, OUT)
        place = 0
        while place < len(self.trees):
            self._add_parts(place)
            place += 1

    def _add(self, tree, behind):
        """Adds a place for a tree."""
        if tree[0] == "set":
            self.set_places[tree[1]] = len(self.trees)
        self.trees.append(tree)
        self.behind.append(behind)
        self.inside.append(None)

    def _add_parts(self, place):
        """Adds the places of the parts of the tree at a place."""
        tree = self.trees[place]
        behind = self.behind[place]
        inside = len(self.trees)
        self.inside[place] = inside
        if tree[0] == "sequence":
            self._add(tree[1], inside + 1)
            self._add(tree[2], behind)
        elif tree[0] == "choice":
            self._add(tree[1], behind)
            self._add(tree[2], behind)
        elif tree[0] in ("nonempty", "star"):
            self._add(tree[1], inside + 1)
            self._add(("leave", place), behind)

    def begin(self, number):
        """The place behind the set with a number, or that of the whole core tree for None."""
        if number is None:
            return 0
        return self.behind[self.set_places[number]]

    def set_codes(self):
        """A tuple with the codes of each set by number."""
        places = [self.set_places[number] for number in sorted(self.set_places)]
        return tuple([self.trees[place][2] for place in places])

    def rest(self, number):
        """The tuple of the core trees that are left behind the set with a number."""
        left = []
        place = self.begin(number)
        while place != OUT:
            tree = self.trees[place]
            if tree[0] != "leave":
                left.append(tree)
            elif self.trees[tree[1]][0] == "star":
                left.append(self.trees[tree[1]])
            place = self.behind[place]
        return tuple(left)
