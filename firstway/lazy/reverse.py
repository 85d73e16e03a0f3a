"""The automaton that runs backwards from where a match stops to where it starts."""

from firstway.threads.judging import judged


def back_state(core, spot, following):
    """The back state at the spot; `following` is that of the next position, None at the stop."""
    return _judged_back(core, spot, following)[0]


def reaches(core, spot, following):
    """Whether the whole core tree reaches the stop exactly from the spot."""
    return _judged_back(core, spot, following)[1]


def _judged_back(core, spot, following):
    """The back state at the spot, and whether the whole core tree reaches the stop from there."""
    if following is None:
        return judged(core, spot, (), True)
    return judged(core, spot, following, False)


def least_start(core, view, first, stop):
    """The least position, not below the first one, from which the whole core tree reaches the
    stop exactly, or None."""
    found = None
    following = None
    for position in reversed(range(first, stop + 1)):
        following, whole_reaches = _judged_back(core, view.spot(position), following)
        if whole_reaches:
            found = position
    return found
