"""Runs of threads, searches and first ways."""

from firstway.threads.cores import fresh
from firstway.threads.moves import can_be_made, walk_moves


def begun(threads, candidate, position, registers):
    """The threads, and behind them one that begins at the position if there is no candidate."""
    if candidate is None:
        return [*threads, (position, None, registers)]
    return list(threads)


def advanced(core, threads, candidate, spot):
    """The threads of the next position and the candidate, for the threads at the spot."""
    following = {}
    # All threads share the visits: what an earlier thread has found has its number already.
    seen = {}
    for start, number, registers in threads:
        for taken, held in walk_moves(core, number, spot, registers, seen):
            if taken is None:
                return (list(following.values()), (start, spot.position, held))
            if taken not in following and can_be_made(core, taken, spot):
                following[taken] = (start, taken, held)
    return (list(following.values()), candidate)


class Run:
    """Threads that go through a text side by side, and the best end that they have found."""

    def __init__(self, core, registers, position, *, renewing):
        self.core = core
        self.registers = registers
        self.renewing = renewing
        self.first_position = position
        self.position = position
        self.threads = []
        self.candidate = None

    def step(self, spot):
        """Makes one step with the spot at the position of the run."""
        threads = self.threads
        if self.renewing or self.position == self.first_position:
            threads = begun(threads, self.candidate, self.position, self.registers)
        self.threads, self.candidate = advanced(self.core, threads, self.candidate, spot)
        self.position += -1 if self.core.backward else 1

    def over(self, length):
        """Whether the run is over in a text of this length."""
        if not 0 <= self.position <= length:
            return True
        if self.threads:
            return False
        if self.candidate is not None:
            return True
        return not self.renewing and self.position != self.first_position


def whole_run(core, registers, view, position, *, renewing):
    """A run from a position that has gone on until it is over."""
    run = Run(core, registers, position, renewing=renewing)
    while not run.over(len(view.text)):
        run.step(view.spot(run.position))
    return run


def search(prepared, view, position):
    """The search from a position: where it began, its candidate or None, and its reach."""
    run = whole_run(prepared.core, fresh(prepared), view, position, renewing=True)
    return (position, run.candidate, run.position)


def next_begin(candidate):
    """The position from which one searches behind a candidate."""
    start, stop, _ = candidate
    if start == stop:
        return stop + 1
    return stop


def searches(prepared, view):
    """The list of the searches of a text, one behind another."""
    return searches_from(prepared, view, 0)


def searches_from(prepared, view, position):
    """The list of the searches from a position on, one behind another."""
    found = [search(prepared, view, position)]
    while found[-1][1] is not None:
        found.append(search(prepared, view, next_begin(found[-1][1])))
    return found


def first_way(core, registers, view, position):
    """The first way of a core from a position as a tuple (end, registers), or None."""
    run = whole_run(core, registers, view, position, renewing=False)
    if run.candidate is None:
        return None
    _, end, held = run.candidate
    return (end, held)
