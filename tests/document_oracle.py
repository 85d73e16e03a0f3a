"""Points 85 to 92 word by word. Lists by position are dicts here, and moved position by position."""

from tests.machine_oracle import View, can_be_matched, pass_all, search, searches


def position_before(edit, q):
    """The old position of a position that is not a changed one."""
    position, removed, inserted = edit
    if q < position:
        return q
    return q - (len(inserted) - removed)


def step_of_pass(body, spot, state):
    new = tuple(n for n in range(len(body.sets)) if can_be_matched(body, n, spot, state))
    return new, can_be_matched(body, None, spot, state)


def turn(look, view, states, bits, stretch):
    """Points 88 and 89 for one look: dicts of states and bits, the stretch as a list of positions."""
    states, bits = dict(states), dict(bits)
    end = len(view.text)
    down = look.ahead
    visited = []
    positions = sorted(stretch, reverse=down)

    def anew(p):
        visited.append(p)
        return step_of_pass(look.body, view.spot(p), states.get(p + 1 if down else p - 1, ()))[0]

    for p in positions:
        states[p] = anew(p)
    beyond = range(min(stretch) - 1, -1, -1) if down else range(max(stretch) + 1, end + 1)
    joined = list(stretch)
    for p in beyond:
        state = anew(p)
        if state == states[p]:
            break
        states[p] = state
        joined.append(p)
    low, high = min(joined), max(joined)
    grown = [p for p in range(low - 1, high + 2) if 0 <= p <= end]
    for p in grown:
        following = states.get(p + 1 if down else p - 1, ())
        bits[p] = step_of_pass(look.body, view.spot(p), following)[1]
    return states, bits, grown, len(visited)


def moved(found, shift):
    def more(entry):
        if isinstance(entry, tuple):
            return tuple(more(part) for part in entry)
        return None if entry is None else entry + shift
    return more(found)


class SlowKept:

    def __init__(self, pattern, text):
        self.pattern = pattern
        prepared = pattern.prepared
        self.states, self.bits = [], []
        for look in prepared.looks:
            states, bits = pass_all(look.body, View(text, self.bits))
            self.states.append(states)
            self.bits.append(bits)
        self.searches = searches(prepared, View(text, self.bits))
        self.effort = (
            len(prepared.looks) * (len(text) + 1),
            sum(reach - begin for begin, _, reach in self.searches),
        )

    def renew(self, text, edit):
        position, _, inserted = edit
        prepared = self.pattern.prepared
        changed = list(range(position, position + len(inserted) + 1))
        stretch = changed
        kept = [p for p in range(len(text) + 1) if p not in changed]
        rows, all_states, visited = [], [], 0
        for number, look in enumerate(prepared.looks):
            states = {p: self.states[number][position_before(edit, p)] for p in kept}
            bits = {p: self.bits[number][position_before(edit, p)] for p in kept}
            states, bits, stretch, more = turn(look, View(text, rows), states, bits, stretch)
            all_states.append([states[p] for p in range(len(text) + 1)])
            rows.append([bits[p] for p in range(len(text) + 1)])
            visited += more
        self.states, self.bits = all_states, rows
        self.effort = (visited, self._renew_searches(text, edit, stretch))

    def _renew_searches(self, text, edit, stretch):
        shift = len(edit[2]) - edit[1]
        view = View(text, self.bits)
        new, steps = [], 0
        for found in self.searches:
            if found[2] > min(stretch):
                break
            new.append(found)
        while not new or new[-1][1] is not None:
            begin = 0
            if new:
                start, stop, _ = new[-1][1]
                begin = stop + 1 if start == stop else stop
            old = [k for k, found in enumerate(self.searches) if found[0] == begin - shift]
            if begin > max(stretch) and old:
                new += [moved(found, shift) for found in self.searches[old[0]:]]
                break
            new.append(search(self.pattern.prepared, view, begin))
            steps += new[-1][2] - begin
        self.searches = new
        return steps

    def contents(self):
        return self.states, self.bits, self.searches
