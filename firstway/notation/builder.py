"""The second step of reading a source: a tree is built from the tokens."""

from firstway.errors import PatternError
from firstway.meaning.patterns import repeat_factor
from firstway.meaning.walks import nested

_BRACKETS_AT_MOST = 8
_LOOKS_AT_MOST = 4
_WEIGHT_AT_MOST = 100


class Bracket:
    """What has been read of an open bracket, or of the whole source.

    The weights are counted along, so that no tree is walked through again.
    """

    def __init__(self, token, number):
        self.token = token
        self.number = number
        self.alternatives = []
        self.parts = []
        self.weight = 0
        self.last_weight = 0
        self.last_repeats = False

    def add_tree(self, tree, tree_weight):
        """Puts an element behind the others of the present alternative."""
        self.parts.append(tree)
        self.weight += tree_weight
        self.last_weight = tree_weight
        self.last_repeats = False

    def repeat_last(self, token):
        """Lets a token that repeats apply to the element ahead of it."""
        _, column, least, most, greedy = token
        if not self.parts or self.last_repeats:
            raise PatternError(column, "something to repeat")
        repeated = self.last_weight * repeat_factor(least, most)
        if repeated > _WEIGHT_AT_MOST:
            raise PatternError(column, "fewer repetitions")
        self.parts[-1] = ("repeat", self.parts[-1], least, most, greedy)
        self.weight += repeated - self.last_weight
        self.last_weight = repeated
        self.last_repeats = True

    def end_alternative(self):
        """Ends the present alternative; the next one has no elements yet."""
        if not self.parts:
            self.add_tree(("empty",), 1)
        self.alternatives.append(nested("sequence", self.parts))
        self.parts = []

    def whole(self):
        """The tree of what stands in the bracket, which is at its end."""
        self.end_alternative()
        return nested("choice", self.alternatives)


class Builder:
    """The open brackets, the innermost one last, and the names of the groups ahead."""

    def __init__(self):
        self.brackets = [Bracket(None, None)]
        self.names = []
        self.taken_names = {}
        self.looks = 0

    def take(self, token):
        """Takes the next token."""
        kind = token[0]
        inner = self.brackets[-1]
        if kind == "tree":
            inner.add_tree(token[2], 1)
        elif kind == "bar":
            inner.end_alternative()
        elif kind == "repeat":
            inner.repeat_last(token)
        elif kind == "close":
            self._close(token[1])
        else:
            self._begin(token)

    def finished(self):
        """The tree and the names, behind the last token."""
        if len(self.brackets) > 1:
            raise PatternError(self.brackets[-1].token[1], "a closing bracket")
        tree = self.brackets[0].whole()
        if self.brackets[0].weight > _WEIGHT_AT_MOST:
            raise PatternError(1, "a smaller pattern")
        if self.looks > _LOOKS_AT_MOST:
            raise PatternError(1, "fewer lookarounds")
        return (tree, tuple(self.names))

    def _begin(self, token):
        """Opens a bracket."""
        kind = token[0]
        column = token[1]
        if len(self.brackets) > _BRACKETS_AT_MOST:
            raise PatternError(column, "less nesting")
        self.brackets.append(Bracket(token, len(self.names)))
        if kind == "group":
            self._name_group(token[2], column)
        elif kind == "look":
            self.looks += 1

    def _name_group(self, name, column):
        """Gives the next group its name, or None."""
        if name in self.taken_names:
            raise PatternError(column, "another name")
        self.names.append(name)
        if name is not None:
            self.taken_names[name] = True

    def _close(self, column):
        """Closes the innermost bracket, which becomes an element of the one around it."""
        if len(self.brackets) == 1:
            raise PatternError(column, "an open bracket")
        bracket = self.brackets.pop()
        tree = bracket.whole()
        token = bracket.token
        if token[0] == "group":
            tree = ("group", bracket.number, tree)
        elif token[0] == "look":
            tree = ("look", token[2], token[3], tree)
        self.brackets[-1].add_tree(tree, bracket.weight)


def build(tokens):
    """The tree of a list of tokens, and the tuple of the names of its groups."""
    builder = Builder()
    for token in tokens:
        builder.take(token)
    return builder.finished()
