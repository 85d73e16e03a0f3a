"""What is left behind the sets of a core, judged for all of them at once.

Here it is only asked whether there is a wanted move, not which one comes first. So each place of
the core is looked at once, first for the moves of its tree, then for those behind it.
"""

from firstway.threads.moves import can_be_made, lets_pass


def judged(core, spot, state, ends_count):
    """The numbers of the sets behind which there is a wanted move, ascending as a tuple, and
    whether the whole core tree has one.

    A move that takes is wanted if it can be made and its number is in the state. A move that ends
    is wanted if `ends_count` is True.
    """
    layout = core.layout
    wanted = {number: True for number in state if can_be_made(core, number, spot)}
    takes, ends = _trees_judged(layout, spot, wanted)
    behind = _behind_judged(layout, takes, ends, ends_count)
    places = [layout.set_places[number] for number in range(len(core.sets))]
    numbers = [number for number, place in enumerate(places) if behind[place]]
    return (tuple(numbers), takes[0] or (ends[0] and behind[0]))


def _trees_judged(layout, spot, wanted):
    """Two lists by place: whether the tree there has a move that takes and is wanted, and an end."""
    takes = [False] * len(layout.trees)
    ends = [False] * len(layout.trees)
    for place in reversed(range(len(layout.trees))):
        tree = layout.trees[place]
        kind = tree[0]
        first = layout.inside[place]
        if kind == "set":
            takes[place] = tree[1] in wanted
        elif kind == "sequence":
            takes[place] = takes[first] or (ends[first] and takes[first + 1])
            ends[place] = ends[first] and ends[first + 1]
        elif kind == "choice":
            takes[place] = takes[first] or takes[first + 1]
            ends[place] = ends[first] or ends[first + 1]
        elif kind in ("nonempty", "star"):
            takes[place] = takes[first]
            ends[place] = kind == "star"
        elif kind != "leave":
            ends[place] = lets_pass(tree, spot)
    return (takes, ends)


def _behind_judged(layout, takes, ends, ends_count):
    """A list by place: whether what is left behind the tree there has a wanted move."""
    behind = [ends_count] * len(layout.trees)
    for place, tree in enumerate(layout.trees):
        kind = tree[0]
        first = layout.inside[place]
        if kind == "sequence":
            behind[first] = takes[first + 1] or (ends[first + 1] and behind[place])
            behind[first + 1] = behind[place]
        elif kind == "choice":
            behind[first] = behind[place]
            behind[first + 1] = behind[place]
        elif kind == "nonempty":
            behind[first] = behind[place]
        elif kind == "star":
            behind[first] = takes[place] or behind[place]
    return behind
