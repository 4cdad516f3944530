"""Layouts of rings, by Gray's order, and of hubs."""

from oneflip.checks import need_number
from oneflip.layouts import Layout
from oneflip.machines import MOST_STATES
from oneflip.words import gray


def ring_layout(states):
    """The layout of a ring of so many states: each one has words that follow one another in Gray's order."""
    need_number(states, "states", 2, MOST_STATES)
    bits = (states - 1).bit_length()
    means = [0] * (1 << bits)
    for number in range(1 << bits):
        means[gray(number)] = number * states >> bits
    return Layout(bits, means)


def hub_layout(states):
    """The layout of a hub of so many states: the words below mean 0, those above one of the others each."""
    need_number(states, "states", 2, MOST_STATES)
    half = 1 << (states - 2).bit_length()
    above = [number + 1 if number < states - 1 else 0 for number in range(half)]
    return Layout(half.bit_length(), [0] * half + above)
