"""Sets of codes as tuples of ranges, each set written in exactly one way."""


def make_set(pairs):
    """The set of all codes that lie in some pair of the list."""
    ranges = []
    for low, high in sorted(pairs):
        if low >= high:
            continue
        if ranges and low <= ranges[-1][1]:
            ranges[-1] = (ranges[-1][0], max(ranges[-1][1], high))
        else:
            ranges.append((low, high))
    return tuple(ranges)


def union(a, b):
    """The codes of both sets."""
    return make_set([*a, *b])


def common(a, b):
    """The codes that are in both sets."""
    return complement(union(complement(a), complement(b)))


def without(a, b):
    """The codes of a that are not in b."""
    return common(a, complement(b))


def complement(a):
    """The codes from 0 to 127 that are not in the set."""
    gaps = []
    begin = 0
    for low, high in a:
        gaps.append((begin, low))
        begin = high
    gaps.append((begin, 128))
    return make_set(gaps)


def contains(a, code):
    """Whether the code is in the set."""
    for low, high in a:
        if low <= code < high:
            return True
    return False


def size(a):
    """The number of codes in the set."""
    return sum(high - low for low, high in a)


def least(a):
    """The least code in the set, or None if it is empty."""
    if not a:
        return None
    return a[0][0]


def folded(a):
    """The set and the codes of its letters in the other case."""
    pairs = list(a)
    for low, high in a:
        # A range without letters of the case gives a pair that is empty.
        pairs.append((max(low, 65) + 32, min(high, 91) + 32))
        pairs.append((max(low, 97) - 32, min(high, 123) - 32))
    return make_set(pairs)
