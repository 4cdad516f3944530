import unittest

from oneflip.errors import BadBits, BadLayout, BadMachine, BadNumber, BadWord, Misfit
from oneflip.kept import kept_of, rank_of, stands_for
from oneflip.layouts import Layout, pieces_of
from oneflip.machines import Machine, any_to_any, beside, hub, line, ring
from oneflip.rings import hub_layout, ring_layout
from oneflip.turns import beside_layout, renamed, turned_layout
from tests.tools import NO_INTEGERS, NO_LAYOUTS, NO_LISTS, NO_MACHINES, Case, any_layout, any_machine, dice


class Beside(Case):
    def test_each_word(self):
        die = dice(41)
        for _ in range(100):
            low, high = die.randrange(1, 5), die.randrange(1, 7)
            one = any_layout(die, die.randrange(1, 4), low)
            other = any_layout(die, die.randrange(1, 5), high)
            states = die.randrange(low, 9)
            both = beside_layout(one=one, other=other, states=states)
            self.assertIs(type(both), Layout)
            self.same(both.bits, one.bits + other.bits)
            for word in range(2 ** both.bits):
                first, second = one.means[word % 2 ** one.bits], other.means[word // 2 ** one.bits]
                self.same(both.means[word], None if None in (first, second) else first + states * second)

    def test_words_are_struck_in_the_earlier_round(self):
        die = dice(42)
        struck = 0
        for _ in range(60):
            low, high = die.randrange(1, 5), die.randrange(1, 5)
            one, first = any_layout(die, die.randrange(1, 4), low), any_machine(die, low)
            other, second = any_layout(die, die.randrange(1, 4), high), any_machine(die, high)
            both, machine = beside_layout(one, other, low), beside(first, second)
            self.same(kept_of(both, machine), tuple(
                word for word in range(2 ** both.bits) if word % 2 ** one.bits in kept_of(one, first)
                and word // 2 ** one.bits in kept_of(other, second)))
            for word, meant in enumerate(both.means):
                if meant is not None:
                    ranks = [rank_of(one, first, word % 2 ** one.bits), rank_of(other, second, word // 2 ** one.bits)]
                    wanted = min([rank for rank in ranks if rank is not None], default=None)
                    struck += wanted is not None
                    self.same(rank_of(both, machine, word), wanted)
        self.assertGreater(struck, 100)

    def test_what_stands_stands_beside(self):
        for one, first in ((ring_layout(3), ring(3)), (hub_layout(4), hub(4)), (Layout(1, [0, 0]), Machine(1, []))):
            for other, second in ((ring_layout(5), line(5)), (hub_layout(3), hub(3)), (Layout(1, [0, 1]), ring(2))):
                both = beside_layout(one, other, first.states)
                self.same(stands_for(both, beside(first, second)), True)
                self.same(len(pieces_of(both)), len(pieces_of(one)) * len(pieces_of(other)))

    def test_bits_at_the_edge(self):
        self.same(beside_layout(ring_layout(8), ring_layout(2), 8).bits, 4)
        self.same(beside_layout(Layout(4, [0] * 16), Layout(4, [1] * 16), 1).means, (1,) * 256)
        self.same(beside_layout(Layout(7, [0] * 128), Layout(1, [0, 1]), 3).means, (0,) * 128 + (3,) * 128)
        self.fails(Misfit("bits"), beside_layout, Layout(4, [0] * 16), Layout(5, [0] * 32), 1)
        self.fails(Misfit("bits"), beside_layout, Layout(8, [63] * 256), Layout(1, [63, 63]), 1)
        self.fails(Misfit("bits"), beside_layout, Layout(8, [0] * 256), Layout(8, [0] * 256), 1)

    def test_states_at_the_edge(self):
        self.same(beside_layout(Layout(1, [0, 7]), Layout(1, [7, 0]), 8).means, (56, 63, 0, 7))
        self.fails(Misfit("states"), beside_layout, Layout(1, [0, 7]), Layout(1, [7, 8]), 8)
        self.fails(Misfit("states"), beside_layout, Layout(1, [0, 1]), Layout(1, [63, None]), 2)
        self.same(beside_layout(Layout(1, [0, None]), Layout(1, [63, None]), 1).means, (63, None, None, None))
        self.fails(Misfit("states"), beside_layout, Layout(1, [0, 7]), Layout(1, [0, 0]), 7)
        self.fails(Misfit("states"), beside_layout, Layout(1, [0, 7]), Layout(1, [None, None]), 7)
        self.same(beside_layout(Layout(1, [0, 7]), Layout(1, [None, None]), 8).means, (None,) * 4)
        self.same(beside_layout(Layout(1, [None, None]), Layout(1, [63, 63]), 64).means, (None,) * 4)
        self.same(beside_layout(Layout(1, [63, 0]), Layout(1, [0, None]), 64).means, (63, 0, None, None))
        self.fails(Misfit("states"), beside_layout, Layout(1, [0, 0]), Layout(1, [0, 1]), 64)

    def test_fails(self):
        for value in NO_LAYOUTS:
            self.fails(BadLayout("one"), beside_layout, value, None, None)
            self.fails(BadLayout("other"), beside_layout, ring_layout(3), value, None)
        for states in NO_INTEGERS + (0, -1, 65, 2 ** 70):
            self.fails(BadNumber("states"), beside_layout, Layout(8, [63] * 256), ring_layout(3), states)


class Turned(Case):
    def test_each_word(self):
        die = dice(43)
        for _ in range(150):
            bits, states = die.randrange(1, 6), die.randrange(1, 6)
            layout = any_layout(die, bits, states)
            order, mask = die.sample(range(bits), bits), die.randrange(2 ** bits)
            names = die.sample(range(64), die.randrange(states, 12))
            told = turned_layout(layout=layout, order=order, mask=mask, names=names)
            self.assertIs(type(told), Layout)
            self.same(told.bits, bits)
            self.same(turned_layout(layout, tuple(order), mask, tuple(names)) == told, True)
            for old, meant in enumerate(layout.means):
                new = 0
                for bit in range(bits):
                    lies = old // 2 ** order[bit] % 2
                    new += 2 ** bit * (1 - lies if mask // 2 ** bit % 2 else lies)
                self.same(told.means[new], None if meant is None else names[meant])

    def test_pieces_and_ranks_go_along(self):
        die = dice(44)
        for _ in range(60):
            bits, states = die.randrange(1, 5), die.randrange(1, 6)
            layout, machine = any_layout(die, bits, states), any_machine(die, states)
            order, mask = die.sample(range(bits), bits), die.randrange(2 ** bits)
            names = die.sample(range(states), states)
            told, other = turned_layout(layout, order, mask, names), renamed(machine, names)
            where = {}
            for old in range(2 ** bits):
                where[old] = sum(2 ** bit * ((old // 2 ** order[bit] + mask // 2 ** bit) % 2) for bit in range(bits))
            self.same(sorted(pieces_of(told)), sorted((names[state], tuple(sorted(where[word] for word in words)))
                                                      for state, words in pieces_of(layout)))
            self.same(stands_for(told, other), stands_for(layout, machine))
            for old, meant in enumerate(layout.means):
                if meant is not None:
                    self.same(rank_of(told, other, where[old]), rank_of(layout, machine, old))

    def test_names_at_the_edge(self):
        layout = Layout(1, [0, 2])
        self.same(turned_layout(layout, [0], 0, [63, 0, 5]).means, (63, 5))
        self.same(turned_layout(layout, [0], 1, [3, 4, 5, 6]).means, (5, 3))
        self.same(turned_layout(layout, [0], 0, list(range(63, -1, -1))).means, (63, 61))
        self.same(turned_layout(Layout(1, [None, None]), [0], 1, []).means, (None, None))
        self.same(turned_layout(Layout(8, [63] * 256), list(range(8)), 255, tuple(range(64))).means, (63,) * 256)
        for names in ([], [0], [0, 1], (63, 62)):
            self.fails(Misfit("names"), turned_layout, layout, [0], 0, names)

    def test_fails(self):
        layout = Layout(2, [0, 1, None, 0])
        for value in NO_LAYOUTS:
            self.fails(BadLayout("layout"), turned_layout, value, None, None, None)
        for order in NO_LISTS + ([], [0], [0, 0], [1], [0, 1, 2], [0, 2], [1, 2], [0, 1, 1], [-1, 0], [0, True],
                                 [False, 1], [0, 1.0], [0, None], ["0", "1"], [[0], 1], ((0, 1),)):
            self.fails(BadBits("order"), turned_layout, layout, order, None, None)
        for mask in NO_INTEGERS + (-1, 4, 2 ** 70):
            self.fails(BadWord("mask"), turned_layout, layout, [0, 1], mask, None)
        for names in NO_LISTS + ([0, 0], [0, 64], [-1, 0], [True, 0], [0, False], [0, None], [0, 1.0], ["0", "1"],
                                 [[0], 1], list(range(65)), [5, 6, 5]):
            self.fails(BadNumber("names"), turned_layout, layout, [0, 1], 3, names)

    def test_what_is_passed_stays(self):
        order, names = [1, 0], [5, 6]
        told = turned_layout(Layout(2, [0, 1, None, 0]), order, 2, names)
        self.same((order, names), ([1, 0], [5, 6]))
        names[0] = 9
        self.assertNotIn(9, told.means)


class Renamed(Case):
    def test_each_change(self):
        die = dice(45)
        for _ in range(60):
            machine = any_machine(die, die.randrange(1, 8))
            names = die.sample(range(machine.states), machine.states)
            told = renamed(machine=machine, names=names)
            self.same(told.states, machine.states)
            self.same(told.changes, tuple(sorted((names[old], names[new]) for old, new in machine.changes)))
            self.same(renamed(machine, tuple(names)) == told, True)
        self.same(renamed(any_to_any(64), list(range(63, -1, -1))) == any_to_any(64), True)
        self.same(renamed(Machine(1, []), [0]) == Machine(1, []), True)

    def test_fails(self):
        for value in NO_MACHINES:
            self.fails(BadMachine("machine"), renamed, value, None)
        for names in NO_LISTS + ([], [0, 1], [0, 1, 2, 3], [0, 1, 1], [0, 1, 3], [-1, 0, 1], [0, True, 2], [0, 1, None],
                                 [False, 1, 2], [0, 1.0, 2], ["0", "1", "2"], [[0], 1, 2]):
            self.fails(BadNumber("names"), renamed, hub(3), names)


if __name__ == "__main__":
    unittest.main()
