"""What several tests need."""

import contextlib
import sys


def one(sign):
    """The set tree of one character."""
    return ("set", ((ord(sign), ord(sign) + 1),))


def chain(kind, trees):
    """The trees as one tree that is nested to the right."""
    whole = trees[-1]
    for tree in reversed(trees[:-1]):
        whole = (kind, tree, whole)
    return whole


def left_chain(kind, trees):
    """The trees as one tree that is nested to the left."""
    whole = trees[0]
    for tree in trees[1:]:
        whole = (kind, whole, tree)
    return whole


def star(tree, greedy=True):
    return ("repeat", tree, 0, None, greedy)


@contextlib.contextmanager
def few_calls():
    """Inside, recursion deeper than a few hundred calls fails."""
    depth = 0
    frame = sys._getframe()
    while frame is not None:
        depth += 1
        frame = frame.f_back
    limit = sys.getrecursionlimit()
    sys.setrecursionlimit(depth + 200)
    try:
        yield
    finally:
        sys.setrecursionlimit(limit)
