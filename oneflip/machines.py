"""Machines: states, told by numbers from 0 on, and changes between them."""

from oneflip.checks import is_list, is_within, need_number
from oneflip.errors import BadMachine, BadText, Misfit
from oneflip.texts import integer_at, items_of, need_item

MOST_STATES = 64


class Machine:
    """So many states, and changes, which are pairs (from, to) of two unlike states."""

    def __init__(self, states, changes):
        if not is_within(states, 1, MOST_STATES):
            raise BadMachine("states")
        if not _are_changes(changes, states):
            raise BadMachine("changes")
        self.states = states
        self.changes = tuple(sorted([tuple(change) for change in changes]))

    def __eq__(self, other):
        return isinstance(other, Machine) and self.states == other.states and self.changes == other.changes

    def __str__(self):
        return " / ".join([str(self.states)] + [f"{old} {new}" for old, new in self.changes])

    @staticmethod
    def read(text):
        """The Machine whose text this is."""
        items = items_of(text)
        states = integer_at(items, 0, 1, MOST_STATES)
        changes = []
        last = (0, 0)
        for at in range(1, len(items), 3):
            last = _change_at(items, at, states, last)
            changes.append(last)
        return Machine(states, changes)

    def leads(self, state):
        """The states to which a state leads, ascending."""
        need_number(state, "state", 0, self.states - 1)
        return tuple([new for old, new in self.changes if old == state])


def _is_change(value, states):
    if not is_list(value) or len(value) != 2:
        return False
    return all([is_within(state, 0, states - 1) for state in value]) and value[0] != value[1]


def _are_changes(value, states):
    if not is_list(value) or not all([_is_change(change, states) for change in value]):
        return False
    return len({tuple(change) for change in value}) == len(value)


def _change_at(items, at, states, last):
    """The change that is written from a place on; it must be above the last one."""
    need_item(items, at, "/")
    old = integer_at(items, at + 1, 0, states - 1)
    if old < last[0]:
        raise BadText(0, at + 1)
    new = integer_at(items, at + 2, 0, states - 1)
    if new == old or (old, new) <= last:
        raise BadText(0, at + 2)
    return old, new


def need_machine(value, part):
    """Raises BadMachine(part) for what is no Machine."""
    if not isinstance(value, Machine):
        raise BadMachine(part)


def any_to_any(states):
    """The Machine of so many states with all changes that there may be."""
    need_number(states, "states", 1, MOST_STATES)
    return Machine(states, [(old, new) for old in range(states) for new in range(states) if old != new])


def line(states):
    """The Machine with the changes between each state and the next one, both ways."""
    need_number(states, "states", 1, MOST_STATES)
    return both_ways(Machine(states, [(state, state + 1) for state in range(states - 1)]))


def ring(states):
    """The Machine of a line, and with the changes between the last state and state 0, both ways."""
    need_number(states, "states", 2, MOST_STATES)
    return both_ways(Machine(states, [(state, (state + 1) % states) for state in range(states)]))


def hub(states):
    """The Machine with the changes between state 0 and each other state, both ways."""
    need_number(states, "states", 1, MOST_STATES)
    return both_ways(Machine(states, [(0, state) for state in range(1, states)]))


def beside(one, other):
    """Two Machines side by side, of which each change changes just one."""
    need_machine(one, "one")
    need_machine(other, "other")
    if one.states * other.states > MOST_STATES:
        raise Misfit("states")
    many = one.states
    changes = [(old + many * still, new + many * still) for old, new in one.changes for still in range(other.states)]
    changes.extend([(still + many * old, still + many * new) for old, new in other.changes for still in range(many)])
    return Machine(many * other.states, changes)


def both_ways(machine):
    """The Machine with the changes of a Machine and each of them turned about."""
    need_machine(machine, "machine")
    turned = [(new, old) for old, new in machine.changes]
    return Machine(machine.states, sorted(set(list(machine.changes) + turned)))


def fewest_leads(machine):
    """The least number of states to which one of its states leads."""
    need_machine(machine, "machine")
    return min([len(machine.leads(state)) for state in range(machine.states)])
