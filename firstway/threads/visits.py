"""Visits: how the moves of a core are found by going from place to place of its layout.

It depends on the way to a place what can be found from there: a star or nonempty that was entered
on this way is not left without taking anything, while what is left behind a set leaves it, and
enters the star anew. So a visit is a place and whether the innermost star or nonempty around it was
entered on the way.
"""

from firstway.threads.layout import OUT


class Visits:
    """The visits of a layout at which there is something to do, and what comes next behind them.

    `first` has the first visit behind each set by number, and that of the whole core tree by None.
    `onward` has for each visit the tuple of the visits that come next, the first one last. Visits
    at which nothing is done and behind which one visit comes next are passed over.
    """

    def __init__(self, layout):
        self._layout = layout
        self._passed = {}
        self.first = {}
        for number in [None, *layout.set_places]:
            self.first[number] = self._end_of((layout.begin(number), False))
        self.onward = {}
        todo = list(self.first.values())
        while todo:
            visit = todo.pop()
            if visit not in self.onward:
                following = tuple([self._end_of(further) for further in _further(layout, *visit)])
                self.onward[visit] = following
                todo.extend(following)

    def _end_of(self, visit):
        """The first visit, from this one on, that is not passed over."""
        passed = []
        while visit not in self._passed and _is_passed(self._layout, *visit):
            passed.append(visit)
            visit = _further(self._layout, *visit)[0]
        end = self._passed.get(visit, visit)
        for earlier in passed:
            self._passed[earlier] = end
        return end


def _is_passed(layout, place, entered):
    """Whether nothing is done at a visit and one visit comes next."""
    if place == OUT:
        return False
    tree = layout.trees[place]
    if tree[0] == "leave":
        return not entered
    return tree[0] in ("sequence", "nonempty", "empty") or tree == ("forget", (), ())


def _further(layout, place, entered):
    """The visits that come next behind a visit, the first one last."""
    if place == OUT:
        return ()
    tree = layout.trees[place]
    inside = layout.inside[place]
    beyond = (layout.behind[place], entered)
    if tree[0] == "set":
        return ()
    if tree[0] == "sequence":
        return ((inside, entered),)
    if tree[0] == "choice":
        return ((inside + 1, entered), (inside, entered))
    if tree[0] == "nonempty":
        return ((inside, True),)
    if tree[0] == "star":
        return (beyond, (inside, True)) if tree[2] else ((inside, True), beyond)
    if tree[0] == "leave":
        return _from_inside(layout, tree[1], entered)
    return (beyond,)


def _from_inside(layout, whole, entered):
    """The visits that come next where what is left leaves the star or nonempty at a place."""
    if entered:
        return ()
    if layout.trees[whole][0] == "star":
        return ((whole, False),)
    return ((layout.behind[whole], False),)
