"""Codes as layouts, and layouts that are doubled: two bits more, one of which counts."""

from oneflip.checks import need_number
from oneflip.codes import meant_by, need_code
from oneflip.errors import Misfit
from oneflip.layouts import MOST_BITS, Layout, need_layout
from oneflip.machines import MOST_STATES
from oneflip.words import ones_in


def listed(code):
    """The Layout of a code, its values being the states."""
    need_code(code)
    if code.bits > MOST_BITS:
        raise Misfit("code")
    return Layout(code.bits, [meant_by(code, word) for word in range(1 << code.bits)])


def doubled(layout, states):
    """A layout, of a machine of so many states, doubled: it is for twice as many states."""
    need_layout(layout, "layout")
    need_number(states, "states", 1, MOST_STATES)
    if layout.bits + 2 > MOST_BITS:
        raise Misfit("bits")
    if 2 * states > MOST_STATES or any([state is not None and state >= states for state in layout.means]):
        raise Misfit("states")
    means = [_meant_above(layout, word, pair, states) for pair in range(4) for word in range(len(layout.means))]
    return Layout(layout.bits + 2, means)


def _meant_above(layout, word, pair, states):
    """What a word means with a pair of bits, the lower one first, above it."""
    state = layout.means[word]
    if state is None:
        return None
    counts = 0 if ones_in(word) & 1 else 1
    return state + states * ((pair >> counts) & 1)
