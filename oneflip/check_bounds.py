"""Whether papers about bounds are right, by counting, and by looking at the layout that is told."""

from oneflip.bounds import Few, Tight, why_not
from oneflip.checks import is_just, is_list, is_within
from oneflip.kept import stands_for
from oneflip.layouts import Layout
from oneflip.trials import Found, Not, need_trial, smallest


def shows_why(states, leads, bits, value):
    """Whether any value is just the Few, or the Tight, that tells why so many bits are not enough."""
    told = why_not(states, leads, bits)
    if isinstance(told, Few) and isinstance(value, Few):
        return is_just(value.words, told.words)
    if isinstance(told, Tight) and isinstance(value, Tight):
        return is_just([value.inside, value.across, value.most], told.parts)
    return False


def shows_found(machine, bits, value):
    """Whether any value is the Found of a layout of so many bits that stands, or the Not of bits if none does."""
    need_trial(machine, bits)
    if isinstance(value, Found):
        return _are_means(machine, bits, value.means) and stands_for(Layout(bits, value.means), machine)
    if isinstance(value, Not):
        return is_just(value.bits, bits) and not smallest(machine, bits)
    return False


def _are_means(machine, bits, means):
    if not is_list(means) or len(means) != 1 << bits:
        return False
    return all([state is None or is_within(state, 0, machine.states - 1) for state in means])
