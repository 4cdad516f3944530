"""Layouts beside one another, and layouts and machines that are turned and renamed."""

from oneflip.checks import are_unlike, is_within, need_number
from oneflip.errors import BadBits, BadNumber, BadWord, Misfit
from oneflip.layouts import MOST_BITS, MOST_STATE, Layout, need_layout
from oneflip.machines import MOST_STATES, Machine, need_machine


def beside_layout(one, other, states):
    """The layout of one, whose machine has so many states, and other beside one another."""
    need_layout(one, "one")
    need_layout(other, "other")
    need_number(states, "states", 1, MOST_STATES)
    if one.bits + other.bits > MOST_BITS:
        raise Misfit("bits")
    means = [_put_beside(low, high, states) for high in other.means for low in one.means]
    if _means_from(one.means, states) or _means_from(means, MOST_STATE + 1):
        raise Misfit("states")
    return Layout(one.bits + other.bits, means)


def turned_layout(layout, order, mask, names):
    """The layout with its bits in another order, some of them turned about, and with other names of states."""
    need_layout(layout, "layout")
    if not are_unlike(order, 0, layout.bits - 1) or len(order) != layout.bits:
        raise BadBits("order")
    if not is_within(mask, 0, len(layout.means) - 1):
        raise BadWord("mask")
    if not are_unlike(names, 0, MOST_STATE):
        raise BadNumber("names")
    if _means_from(layout.means, len(names)):
        raise Misfit("names")
    means = [layout.means[_old_word(word ^ mask, order)] for word in range(len(layout.means))]
    return Layout(layout.bits, [None if state is None else names[state] for state in means])


def renamed(machine, names):
    """The Machine with other names of states."""
    need_machine(machine, "machine")
    if not are_unlike(names, 0, machine.states - 1) or len(names) != machine.states:
        raise BadNumber("names")
    return Machine(machine.states, [(names[old], names[new]) for old, new in machine.changes])


def _put_beside(low, high, states):
    if low is None or high is None:
        return None
    return low + states * high


def _means_from(means, least):
    """Whether something means a state from the least one on."""
    return any([state is not None and state >= least for state in means])


def _old_word(word, order):
    """The word whose bit order[i] is bit i of a word."""
    return sum([(word >> bit & 1) << old for bit, old in enumerate(order)])
