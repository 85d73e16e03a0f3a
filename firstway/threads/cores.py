"""Prepared patterns: their cores and their looks."""

from firstway.meaning.patterns import inner_groups
from firstway.threads.layout import Layout
from firstway.threads.visits import Visits
from firstway.threads.writing import write_core


class Core:
    """A core tree, the codes of its sets, and what is left behind each set."""

    def __init__(self, tree, backward):
        self.tree = tree
        self.backward = backward
        self.layout = Layout(tree)
        self.visits = Visits(self.layout)
        self.sets = self.layout.set_codes()
        self.rests = tuple([self.layout.rest(number) for number in range(len(self.sets))])


class LookPart:
    """A look of a prepared pattern: its direction, its sign, its body and what is within it."""

    def __init__(self, ahead, positive, body, groups, looks):
        self.ahead = ahead
        self.positive = positive
        self.body = body
        self.groups = groups
        self.looks = looks


class Prepared:
    """A prepared pattern: its forward core, its looks by number and the number of its groups."""

    def __init__(self, core, looks, group_total):
        self.core = core
        self.looks = looks
        self.group_total = group_total


def prepare(tree):
    """The prepared pattern of a pattern tree."""
    core_tree, rows = write_core(tree)
    looks = []
    for ahead, positive, body, groups, inner_looks in rows:
        looks.append(LookPart(ahead, positive, Core(body, not ahead), groups, inner_looks))
    return Prepared(Core(core_tree, False), tuple(looks), len(inner_groups(tree)))


def fresh(prepared):
    """Registers that hold nothing."""
    nothing = (None,) * prepared.group_total
    return (nothing, nothing, (None,) * len(prepared.looks))
