"""Passes: the bits of a look at all positions of a text."""

from firstway.threads.judging import judged
from firstway.threads.spots import View


def pass_step(body, spot, state):
    """The state and the bit at the spot, for the state at the next position."""
    return judged(body, spot, state, True)


def pass_all(body, view):
    """Two lists by position: the states and the bits of a look."""
    positions = list(range(len(view.text) + 1))
    if not body.backward:
        positions.reverse()
    states = [()] * len(positions)
    bits = [False] * len(positions)
    state = ()
    for position in positions:
        state, bit = pass_step(body, view.spot(position), state)
        states[position] = state
        bits[position] = bit
    return (states, bits)


def all_passes(prepared, text):
    """Two lists by look, each with a list by position: the states and the bits."""
    states = []
    bits = []
    for look in prepared.looks:
        look_states, look_bits = pass_all(look.body, View(text, bits))
        states.append(look_states)
        bits.append(look_bits)
    return (states, bits)


def view_of(prepared, text):
    """The view of the text with the bits of all looks."""
    _, bits = all_passes(prepared, text)
    return View(text, bits)
