"""The cells into which a list of sets cuts the codes."""


def cuts(sets):
    """The numbers at which a range of one of the sets begins or ends, ascending."""
    return sorted({border for codes in sets for pair in codes for border in pair})


def cell(borders, code):
    """The number of borders that are less than or equal to the code."""
    return len([border for border in borders if border <= code])


def samples(sets):
    """The least code of each cell that has a code, ascending."""
    return [0] + [border for border in cuts(sets) if 1 <= border <= 127]
