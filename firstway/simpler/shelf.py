"""A shelf: pattern trees by number, equal trees under one number.

So trees of any depth are compared and looked up without walking through them. A row is a tuple
like the tree with numbers in the place of its parts, but ("sequence", numbers) and
("choice", numbers) list what stands along their second parts: the first part, the first part of
the second part, and so on, and last the second part that is not of this kind itself.
"""

from firstway.meaning.walks import bottom_up, nested, parts


class Shelf:
    """Rows by number; the numbers in a row are less than its own one."""

    def __init__(self):
        self.rows = []
        self.bare = []
        self.places = {}

    def number_of(self, row):
        """The number of a row, a new one if it is not on the shelf."""
        if row not in self.places:
            self.places[row] = len(self.rows)
            self.rows.append(row)
            self.bare.append(row[0] != "group" and self.all_bare(row_parts(row)))
        return self.places[row]

    def all_bare(self, numbers):
        """Whether all these trees are bare."""
        return all([self.bare[number] for number in numbers])

    def along(self, kind, number):
        """What stands along the second parts of a tree of this kind, or the tree alone."""
        row = self.rows[number]
        if row[0] == kind:
            return row[1]
        return (number,)

    def chained(self, kind, numbers):
        """The number of the tree along whose second parts these trees stand."""
        if len(numbers) == 1:
            return numbers[0]
        last = self.along(kind, numbers[-1])
        return self.number_of((kind, (*numbers[:-1], *last)))

    def put(self, tree):
        """The number of a tree."""
        done = []
        for part in bottom_up(tree):
            below = [done.pop() for _ in parts(part)]
            below.reverse()
            if part[0] in ("sequence", "choice"):
                done.append(self.chained(part[0], below))
            else:
                done.append(self.number_of(with_parts(part, below)))
        return done[0]

    def take(self, number):
        """The tree with a number."""
        trees = {}
        for part in self.needed(number, {}):
            row = self.rows[part]
            below = [trees[inner] for inner in row_parts(row)]
            if row[0] in ("sequence", "choice"):
                trees[part] = nested(row[0], below)
            else:
                trees[part] = with_parts(row, below)
        return trees[number]

    def needed(self, number, known):
        """The numbers of all trees in a tree, itself included, but for known ones; ascending."""
        found = {}
        todo = [number]
        while todo:
            part = todo.pop()
            if part not in found and part not in known:
                found[part] = True
                todo.extend(row_parts(self.rows[part]))
        return sorted(found)


def row_parts(row):
    """The numbers of the trees that a row lists."""
    if row[0] in ("sequence", "choice"):
        return row[1]
    return parts(row)


def with_parts(tree, below):
    """The tree or row with other parts; it is no sequence and no choice."""
    kind = tree[0]
    if kind == "repeat":
        return (kind, below[0], tree[2], tree[3], tree[4])
    if kind == "group":
        return (kind, tree[1], below[0])
    if kind == "look":
        return (kind, tree[1], tree[2], below[0])
    return tree
