import unittest
from itertools import product

from oneflip.codes import Code
from oneflip.doubles import listed
from oneflip.errors import BadLayout, BadMachine, Misfit
from oneflip.fits import fitted, longest_road
from oneflip.kept import kept_of, road, stands_for
from oneflip.layouts import Layout
from oneflip.machines import Machine, any_to_any, both_ways, hub, line, ring
from oneflip.rings import hub_layout, ring_layout
from tests.reckon import bits_of, code_value, flips_apart, kept_by_worth
from tests.test_tables import neighbours_in_a_row
from tests.tools import NO_LAYOUTS, NO_MACHINES, Case, any_layout, any_machine, dice


def ring_means(states):
    bits = next(many for many in range(1, 9) if states <= 2 ** many)
    means = [None] * 2 ** bits
    for number, word in enumerate(neighbours_in_a_row(bits)):
        means[word] = number * states // 2 ** bits
    return means


def hub_means(states):
    half = next(2 ** many for many in range(8) if states - 1 <= 2 ** many)
    return [0] * half + [at + 1 if at + 1 < states else 0 for at in range(half)]


def code_means(states):
    """What the words of the code of fewest bits mean, its other values left out; None if it has more than 8 bits."""
    for bits, base, doubles in ((1, 2, 0), (2, 3, 0), (3, 2, 1), (4, 3, 1), (5, 2, 2), (6, 3, 2), (7, 2, 3), (8, 3, 3)):
        if base * 2 ** doubles >= states:
            means = [code_value(base, doubles, bits_of(word, bits)) for word in range(2 ** bits)]
            return [value if value < states else None for value in means]
    return None


def stands(means, machine):
    layout = Layout(len(means).bit_length() - 1, means)
    kept = kept_by_worth(layout, machine)
    return (len(kept) == len([state for state in means if state is not None])
            and {means[word] for word in kept} == set(range(machine.states)))


def fitted_by_trying(machine):
    told = [means for means in (ring_means(machine.states), hub_means(machine.states), code_means(machine.states))
            if means is not None and stands(means, machine)]
    return min(told, key=len) if told else None


def longest_by_layers(layout, machine):
    """The most flips of a road, by layers of words around each kept word; None if there is no road."""
    kept = kept_by_worth(layout, machine)
    most = None
    for word in kept:
        for old, new in machine.changes:
            if old == layout.means[word]:
                layer, many = {word}, 0
                while not [here for here in layer if layout.means[here] == new]:
                    inside = [here for here in layer if layout.means[here] == old]
                    layer = layer | {there for there in range(2 ** layout.bits) for here in inside
                                     if there in kept and flips_apart(there, here) == 1}
                    many += 1
                most = max(many, most or 0)
    return most


def two_hubs(states):
    """A machine of which two states lead to all others: neither a ring nor a hub."""
    return Machine(states, [(old, new) for old in (0, 1) for new in range(states) if old != new])


class Fitted(Case):
    def test_some_machines(self):
        die = dice(271)
        seen = {"ring": 0, "hub": 0, "code": 0}
        for states in range(2, 9):
            for part in (0, 1, 2, 4, 7, 10):
                for _ in range(3 if states < 7 else 1):
                    machine = any_machine(die, states, part)
                    means = fitted_by_trying(machine)
                    layout = fitted(machine=machine)
                    self.same(layout.means, tuple(means))
                    self.same(2 ** layout.bits, len(means))
                    seen["ring" if means == ring_means(states) else "hub" if means == hub_means(states) else "code"] += 1
        self.assertGreater(min(seen.values()), 2)

    def test_all_machines_of_three_states(self):
        pairs = [(old, new) for old in range(3) for new in range(3) if old != new]
        for there in product((False, True), repeat=6):
            machine = Machine(3, [pair for pair, told in zip(pairs, there) if told])
            self.same(fitted(machine).means, tuple(fitted_by_trying(machine)))

    def test_rings_and_hubs(self):
        for states in range(2, 65):
            self.same(fitted(ring(states)).means, tuple(ring_means(states)))
            self.same(fitted(ring(states)) == ring_layout(states), True)
            self.same(fitted(line(states)) == ring_layout(states), True)
            self.same(fitted(Machine(states, [])) == ring_layout(states), True)
            self.same(fitted(Machine(states, [(states - 1, 0)])) == ring_layout(states), True)
            part = fitted(Machine(states, [(0, state) for state in range(1, states)]))
            self.same(part == fitted(hub(states)), True)
            self.same(part == (ring_layout(states) if states < 4 else hub_layout(states)), True)

    def test_codes(self):
        for states in range(4, 25):
            layout = fitted(any_to_any(states))
            self.same(layout.means, tuple(code_means(states)))
            self.same(stands_for(layout, any_to_any(states)), True)
        self.same(fitted(any_to_any(24)) == listed(Code(3, 3)), True)
        self.same(fitted(any_to_any(16)) == listed(Code(2, 3)), True)

    def test_states_that_are_too_many_for_codes(self):
        for states in (25, 26, 32, 33, 63, 64):
            self.fails(Misfit("machine"), fitted, any_to_any(states))
            self.fails(Misfit("machine"), fitted, two_hubs(states))
            self.same(fitted(Machine(states, [(1, 2), (2, 1), (states - 1, 0)])) == ring_layout(states), True)
            self.same(fitted(Machine(states, [(0, new) for new in range(2, states, 2)])) == hub_layout(states), True)
        # Of 24 states both are fitted, by a code.
        self.same(fitted(two_hubs(24)) == listed(Code(3, 3)), True)

    def test_one_state(self):
        self.same((fitted(Machine(1, [])).bits, fitted(Machine(1, [])).means), (1, (0, 0)))

    def test_fewest_bits_and_the_first(self):
        # For two and for three states ring, hub and code have as many bits, all of which stand.
        for states in (2, 3):
            self.same(fitted(any_to_any(states)) == ring_layout(states), True)
            self.same(fitted(hub(states)) == ring_layout(states), True)
        # For four states hub and code have three bits.
        self.same(fitted(hub(4)) == hub_layout(4), True)
        self.same(fitted(any_to_any(4)) == listed(Code(2, 1)), True)

    def test_greatest(self):
        with self.in_short(10):
            for machine in (any_to_any(24), hub(64), ring(64), both_ways(Machine(24, [(0, at) for at in range(1, 24)]))):
                self.assertLessEqual(fitted(machine).bits, 8)

    def test_fails(self):
        for value in NO_MACHINES:
            self.fails(BadMachine("machine"), fitted, value)


class Longest(Case):
    def test_some_layouts(self):
        die = dice(272)
        seen = {}
        for _ in range(150):
            states = die.randrange(2, 5)
            layout = any_layout(die, die.randrange(1, 6), states, die.randrange(2))
            machine = any_machine(die, states)
            wanted = longest_by_layers(layout, machine)
            self.same(longest_road(layout=layout, machine=machine), wanted)
            seen[wanted] = seen.get(wanted, 0) + 1
        self.assertGreater(len(seen), 3)

    def test_roads(self):
        for layout, machine in ((ring_layout(6), ring(6)), (ring_layout(5), ring(5)), (hub_layout(6), hub(6)),
                                (listed(Code(2, 1)), any_to_any(4)), (listed(Code(3, 1)), any_to_any(6)),
                                (ring_layout(3), any_to_any(3)), (Layout(3, [0, 0, 1, 0, 2, None, 1, 1]), line(3))):
            roads = [len(road(layout, machine, word, new)) for word in kept_of(layout, machine)
                     for new in machine.leads(layout.means[word])]
            self.same(longest_road(layout, machine), max(roads))
            self.same(longest_by_layers(layout, machine), max(roads))

    def test_a_winding_road(self):
        # State 0 winds through the words, so that its road comes back by bits that it has flipped.
        means = [None] * 32
        for word in (0, 1, 3, 7, 6, 14, 10):
            means[word] = 0
        means[26] = 1
        layout, machine = Layout(5, means), Machine(2, [(0, 1)])
        self.same(longest_road(layout, machine), longest_by_layers(layout, machine))
        self.same(longest_road(layout, machine), 7)
        self.same(road(layout, machine, 0, 1), (0, 1, 2, 0, 3, 2, 4))

    def test_none(self):
        for layout, machine in ((Layout(1, [0, 1]), Machine(2, [])), (Layout(2, [None] * 4), any_to_any(4)),
                                (Layout(2, [0, None, None, 1]), any_to_any(2)), (Layout(1, [0, 0]), Machine(1, [])),
                                (Layout(2, [0, 0, 1, 1]), Machine(3, [(0, 2), (2, 0)]))):
            self.same(longest_road(layout, machine), None)
            self.same(longest_by_layers(layout, machine), None)

    def test_greatest(self):
        with self.in_short(10):
            self.same(longest_road(ring_layout(64), ring(64)), 1)
            self.same(longest_road(ring_layout(63), ring(63)), 2)
            self.same(longest_road(hub_layout(64), hub(64)), 8)
            self.same(longest_road(listed(Code(3, 3)), any_to_any(24)) > 4, True)
            self.same(longest_road(Layout(8, [0] * 255 + [1]), any_to_any(2)), 8)

    def test_fails(self):
        for value in NO_LAYOUTS:
            self.fails(BadLayout("layout"), longest_road, value, None)
        for value in NO_MACHINES:
            self.fails(BadMachine("machine"), longest_road, Layout(1, [0, 9]), value)
        self.fails(Misfit("layout"), longest_road, Layout(1, [0, 2]), any_to_any(2))
        self.fails(Misfit("layout"), longest_road, Layout(1, [0, 2]), Machine(2, []))


if __name__ == "__main__":
    unittest.main()
