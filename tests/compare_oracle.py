"""Points 116 to 123 word by word."""

from itertools import product

from tests.document_oracle import step_of_pass
from tests.feed_oracle import TEXT_SIGNS
from tests.machine_oracle import advanced, nothing_held
from tests.oracle import in_set, is_word
from firstway.threads.spots import Spot


class NoAnswer(Exception):
    """There are more states than the limit."""


def representatives(first, other):
    sets = []
    for pattern in (first, other):
        sets += pattern.prepared.core.sets
        for look in pattern.prepared.looks:
            sets += look.body.sets
    found = {}
    for sign in sorted(TEXT_SIGNS):
        kind = tuple(in_set(codes, sign) for codes in sets) + (is_word(sign), sign in "\n\r")
        found.setdefault(kind, ord(sign))
    return sorted(found.values())


def guessable(prepared, number, codes):
    look = prepared.looks[number]
    levels = [[()]]
    while levels[-1]:
        new = []
        for state in levels[-1]:
            for before, after in product([None, *codes], repeat=2):
                for row in product((False, True), repeat=len(look.looks)):
                    bits = [False] * len(prepared.looks)
                    for inner, bit in zip(look.looks, row):
                        bits[inner] = bit
                    found, _ = step_of_pass(look.body, Spot(0, before, after, tuple(bits)), state)
                    if found not in new and not any(found in level for level in levels):
                        new.append(found)
        levels.append(new)
    return sorted(state for level in levels for state in level)


def left_with(prepared, entries, before, after, guesses):
    ways = [((), ())]
    for number, look in enumerate(prepared.looks):
        new = []
        for bits, following in ways:
            spot = Spot(0, before, after, bits)
            if look.ahead:
                for guess in guesses[number]:
                    state, bit = step_of_pass(look.body, spot, guess)
                    if entries[number] in (None, state):
                        new.append((bits + (bit,), following + (guess,)))
            else:
                state, bit = step_of_pass(look.body, spot, entries[number])
                new.append((bits + (bit,), following + (state,)))
        ways = new
    return ways


def step(prepared, side, spot):
    _, threads, candidate = side
    if candidate is None:
        threads = [*threads, (spot.position, None, nothing_held(prepared))]
    return advanced(prepared.core, list(threads), candidate, spot)


def shown(candidate):
    return candidate and (candidate[0], candidate[1], candidate[2][1])


def alike_key(state):
    """What alike states have in common."""
    before, *sides = state
    bare = []
    for entries, threads, candidate in sides:
        bare.append((entries, [(start, n, held[:2]) for start, n, held in threads], shown(candidate)))
    positions = set()
    for _, threads, candidate in bare:
        for start, _, (opened, groups) in threads:
            positions |= {start, *opened, *[p for span in groups if span for p in span]}
        if candidate:
            positions |= {candidate[0], candidate[1], *[p for span in candidate[2] if span for p in span]}
    positions.discard(None)

    def rank(p):
        return None if p is None else sum(q < p for q in positions)

    def ranks(row):
        return tuple(None if span is None else tuple(map(rank, span)) for span in row)

    key = [before]
    for entries, threads, candidate in bare:
        key.append((
            entries,
            tuple((rank(s), n, tuple(map(rank, o)), ranks(g)) for s, n, (o, g) in threads),
            candidate and (rank(candidate[0]), rank(candidate[1]), ranks(candidate[2])),
        ))
    return tuple(key)


def compare(first, other, limit):
    """The answer, and how many states each level had found in all when it was asked."""
    both = (first.prepared, other.prepared)
    codes = representatives(first, other)
    guesses = []
    for prepared in both:
        rows = [guessable(prepared, k, codes) if look.ahead else [] for k, look in enumerate(prepared.looks)]
        if any(len(row) > limit for row in rows):
            raise NoAnswer
        guesses.append(rows)
    sides = [(tuple(None if look.ahead else () for look in prepared.looks), [], None) for prepared in both]
    level = [("", (None, *sides))]
    found = {alike_key(level[0][1])}
    totals = []
    while level:
        totals.append(len(found))
        if len(found) > limit:
            raise NoAnswer
        telling = [text for text, state in level if tells_apart(both, state, len(text))]
        if telling:
            return min(telling), totals
        following = []
        for text, state in level:
            for code in codes:
                for new in states_behind(both, guesses, state, code, len(text)):
                    following.append((text + chr(code), new))
        level = []
        for text, state in sorted(following, key=lambda row: row[0]):
            key = alike_key(state)
            if key not in found:
                found.add(key)
                level.append((text, state))
    totals.append(len(found))
    return None, totals


def states_behind(both, guesses, state, code, position):
    before, *sides = state
    behind = []
    for prepared, rows, side in zip(both, guesses, sides):
        found = []
        for bits, entries in left_with(prepared, side[0], before, code, rows):
            threads, candidate = step(prepared, side, Spot(position, before, code, bits))
            found.append((entries, threads, candidate))
        behind.append(found)
    return [(code, *pair) for pair in product(*behind)]


def tells_apart(both, state, position):
    before, *sides = state
    ends = []
    for prepared, side in zip(both, sides):
        found = []
        for bits, _ in left_with(prepared, side[0], before, None, [[()]] * len(prepared.looks)):
            found.append(shown(step(prepared, side, Spot(position, before, None, bits))[1]))
        ends.append(found)
    return any(a != b for a, b in product(*ends))
