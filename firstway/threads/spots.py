"""What is seen at the positions of a text."""


class Spot:
    """A position, the codes before and behind it, and the bits of the looks there."""

    def __init__(self, position, before, after, bits):
        self.position = position
        self.before = before
        self.after = after
        self.bits = bits


class View:
    """A text and the bits of the looks that are known, a row of bits by position for each look."""

    def __init__(self, text, rows):
        self.text = text
        self.rows = [list(row) for row in rows]

    def spot(self, position):
        """The spot at a position of the text."""
        before = ord(self.text[position - 1]) if position > 0 else None
        after = ord(self.text[position]) if position < len(self.text) else None
        return Spot(position, before, after, tuple([row[position] for row in self.rows]))
