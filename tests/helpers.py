"""What several tests need."""

import contextlib
import sys

from firstway.meaning.patterns import weight
from firstway.notation.printer import print_pattern
from firstway.pattern import Pattern
from firstway.threads.cores import prepare
from tests.machine_oracle import plain_rows
from tests.oracle import Maker


def one(sign):
    """The set tree of one character."""
    return ("set", ((ord(sign), ord(sign) + 1),))


def chain(kind, trees):
    """The trees as one tree that is nested to the right."""
    whole = trees[-1]
    for tree in reversed(trees[:-1]):
        whole = (kind, tree, whole)
    return whole


def left_chain(kind, trees):
    """The trees as one tree that is nested to the left."""
    whole = trees[0]
    for tree in trees[1:]:
        whole = (kind, whole, tree)
    return whole


def star(tree, greedy=True):
    return ("repeat", tree, 0, None, greedy)


@contextlib.contextmanager
def few_calls():
    """Inside, recursion deeper than a few hundred calls fails."""
    depth = 0
    frame = sys._getframe()
    while frame is not None:
        depth += 1
        frame = frame.f_back
    limit = sys.getrecursionlimit()
    sys.setrecursionlimit(depth + 200)
    try:
        yield
    finally:
        sys.setrecursionlimit(limit)


def small_trees(seed, count, *, length=8, heaviest=60, looks=3):
    """Tuples of a tree, a text, the prepared tree, and the bits of its looks by the plain meaning."""
    maker = Maker(seed, looks=looks)
    for _ in range(count):
        tree = maker.tree(maker.chance.randint(1, 5))
        if weight(tree) <= heaviest:
            text = maker.text(length)
            yield tree, text, prepare(tree), plain_rows(tree, text)


def small_patterns(seed, count, *, length=8, looks=3):
    """Tuples of a Pattern and a text."""
    for tree, text, prepared, _ in small_trees(seed, count, length=length, looks=looks):
        source = print_pattern(tree, (None,) * prepared.group_total)
        yield Pattern(source, flags="m"), text
