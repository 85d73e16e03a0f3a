"""Steps of the pass of a look between two characters, each of them computed once."""

from firstway.lazy.signs import sign_of
from firstway.threads.passes import pass_step
from firstway.threads.spots import Spot


class LookTurns:
    """The steps of the pass of a LookPart that were asked for so far.

    A step depends on the character that is taken by its sign, on the other one by whether it is a
    word character or a line end, and on those bits for which the body asks.
    """

    def __init__(self, look):
        self.look = look
        trees = look.body.layout.trees
        self.asked = sorted({tree[1] for tree in trees if tree[0] == "bit"})
        self._has_anchors = any([tree[0] == "anchor" for tree in trees])
        self._steps = {}
        self._signs = {}

    def kind_before(self, code):
        """What the steps know of the code before a position, which may be None."""
        return self._kind(code, self.look.body.backward)

    def kind_behind(self, code):
        """What the steps know of the code behind a position, which may be None."""
        return self._kind(code, not self.look.body.backward)

    def _kind(self, code, is_taken):
        """What the steps know of a code, which is taken or not."""
        if code not in self._signs:
            self._signs[code] = sign_of(self.look.body, code)
        sign = self._signs[code]
        if is_taken:
            return sign
        if sign is None or not self._has_anchors:
            return None
        return sign[-2:]

    def step(self, before, after, bits, state):
        """The state and the bit between two codes, for the state at the next position."""
        known_bits = tuple([bits[number] for number in self.asked])
        question = (self.kind_before(before), self.kind_behind(after), known_bits, state)
        if question not in self._steps:
            self._steps[question] = pass_step(self.look.body, Spot(0, before, after, bits), state)
        return self._steps[question]


def ways_to_leave(turns, entries, before, after, guesses, most):
    """The list of the ways to leave a position, tuples of the bits and the entries at the next
    position; at most one more than `most` of them, or all for None.

    `turns` is the list of the LookTurns of all looks of a pattern.
    """
    found = []
    todo = [((), ())]
    while todo and (most is None or len(found) <= most):
        bits, following = todo.pop()
        number = len(bits)
        if number == len(turns):
            found.append((bits, following))
            continue
        turn = turns[number]
        entry = entries[number]
        if turn.look.ahead:
            for guess in guesses[number]:
                state, bit = turn.step(before, after, bits, guess)
                if entry is None or state == entry:
                    todo.append(((*bits, bit), (*following, guess)))
        else:
            state, bit = turn.step(before, after, bits, entry)
            todo.append(((*bits, bit), (*following, state)))
    return found
