"""What an edit can have changed: the stretch of positions that goes from look to look, and moved
searches."""

from firstway.threads.passes import pass_step


def renew_look(look, view, states, bits, stretch):
    """One turn of a look: the new states and bits, the stretch for the next look, and how many
    positions the pass has visited."""
    new_states, (least, greatest), visited = _renewed_states(look, view, states, stretch)
    least = max(least - 1, 0)
    greatest = min(greatest + 1, len(view.text))
    new_bits = list(bits)
    for position in range(least, greatest + 1):
        state = _state_at(new_states, position + (1 if look.ahead else -1))
        _, new_bits[position] = pass_step(look.body, view.spot(position), state)
    return (new_states, new_bits, (least, greatest), visited)


def _renewed_states(look, view, states, stretch):
    """The new states, the stretch with the positions that have joined it, and how many positions
    the pass has visited."""
    least, greatest = stretch
    new_states = list(states)
    step = -1 if look.ahead else 1
    position = greatest if look.ahead else least
    in_stretch = greatest - least + 1
    visited = 0
    while 0 <= position <= len(view.text):
        following = _state_at(new_states, position - step)
        state, _ = pass_step(look.body, view.spot(position), following)
        visited += 1
        if visited > in_stretch and state == new_states[position]:
            break
        new_states[position] = state
        position += step
    # The pass stands one position behind the last one that belongs to the stretch.
    if look.ahead:
        return (new_states, (position + 1, greatest), visited)
    return (new_states, (least, position - 1), visited)


def _state_at(states, position):
    """The state at a position; none is known beyond the ends of the text."""
    if 0 <= position < len(states):
        return states[position]
    return ()


def moved_search(found, shift):
    """The search with all its positions moved by the shift."""
    begin, candidate, reach = found
    if candidate is not None:
        start, stop, registers = candidate
        candidate = (start + shift, stop + shift, _moved_registers(registers, shift))
    return (begin + shift, candidate, reach + shift)


def _moved_registers(registers, shift):
    """The registers with all their positions moved by the shift."""
    opened, groups, marks = registers
    spans = [None if span is None else _moved_all(span, shift) for span in groups]
    return (_moved_all(opened, shift), tuple(spans), _moved_all(marks, shift))


def _moved_all(row, shift):
    """The tuple of positions, each of which may be None, moved by the shift."""
    return tuple([None if position is None else position + shift for position in row])
