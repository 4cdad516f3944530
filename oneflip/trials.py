"""Trials: whether there is a layout of so many bits that stands for a small machine, by going through all."""

from oneflip.checks import need_number
from oneflip.errors import TooMany
from oneflip.kept import stands_for
from oneflip.layouts import Layout
from oneflip.machines import need_machine
from oneflip.papers import Denial, Paper

MOST_BITS = 2
MOST_STATES = 4


class Found(Paper):
    """What the words of a layout mean that stands for the machine."""

    def __init__(self, means):
        Paper.__init__(self, "found", means)
        self.means = self.parts[0]


class Not(Denial):
    """There is no layout of so many bits that stands for the machine."""

    def __init__(self, bits):
        Denial.__init__(self, "not", bits)
        self.bits = self.parts[0]


def smallest(machine, bits):
    """The Found of a layout of so many bits that stands for a machine, the Not of bits if there is none."""
    need_trial(machine, bits)
    for means in _all_means(machine.states, 1 << bits):
        if stands_for(Layout(bits, means), machine):
            return Found(means)
    return Not(bits)


def need_trial(machine, bits):
    """Raises for what is no machine, no number of bits that is tried, or a machine of too many states."""
    need_machine(machine, "machine")
    need_number(bits, "bits", 1, MOST_BITS)
    if machine.states > MOST_STATES:
        raise TooMany("states", MOST_STATES)


def _all_means(states, words):
    """All that so many words can mean."""
    choice = list(range(states)) + [None]
    rows = [()]
    for _ in range(words):
        rows = [row + (state,) for row in rows for state in choice]
    return rows
