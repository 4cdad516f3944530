import unittest

from oneflip.errors import BadMachine, BadNumber, BadText, Misfit
from oneflip.machines import (Machine, any_to_any, beside, both_ways, fewest_leads, hub, line, ring)
from tests.tools import NO_INTEGERS, NO_LISTS, NO_MACHINES, NO_STRINGS, Case, any_machine, dice, texts_bent

BAD_CHANGES = NO_LISTS + (
    [(0, 3)], [(3, 0)], [(-1, 0)], [(0, -1)], [(1, 1)], [(0, 1), (0, 1)], [(0, 1), [0, 1]], [(0, 1), (1, 2), (0, 1)],
    [(0, True)], [(False, 1)], [(0, 1.0)], [(0, "1")], [(0, None)], [(0,)], [()], [(0, 1, 2)], [0, 1], ["01"], [None],
    [{0: 1, 1: 2}], [{0, 1}], [range(2)], [((0,), 1)], [(0, 1), None], [(0, 1), (1, 2), 7], [[[0, 1]]], [(0, 2 ** 80)])


def changes_by_all(states, is_change):
    return tuple((old, new) for old in range(states) for new in range(states) if old != new and is_change(old, new))


class Machines(Case):
    def test_made(self):
        machine = Machine(4, [(2, 1), [0, 1], (1, 3)])
        self.same(machine.states, 4)
        self.same(machine.changes, ((0, 1), (1, 3), (2, 1)))
        self.same(Machine(states=2, changes=()).changes, ())
        self.same(Machine(1, []).states, 1)
        self.same(Machine(64, ((63, 0),)).changes, ((63, 0),))
        self.same(Machine(2, ([1, 0], [0, 1])).changes, ((0, 1), (1, 0)))

    def test_states_fail(self):
        for states in NO_INTEGERS + (0, -1, 65, 2 ** 70):
            self.fails(BadMachine("states"), Machine, states, [])
            self.fails(BadMachine("states"), Machine, states, [(0, 0)])

    def test_changes_fail(self):
        for changes in BAD_CHANGES:
            self.fails(BadMachine("changes"), Machine, 3, changes)
            if isinstance(changes, list):
                self.fails(BadMachine("changes"), Machine, 3, tuple(changes))
        self.fails(BadMachine("changes"), Machine, 1, [(0, 1)])
        self.fails(BadMachine("changes"), Machine, 64, [(0, 64)])

    def test_what_is_passed_is_copied(self):
        pair = [0, 1]
        changes = [pair, (1, 0)]
        machine = Machine(2, changes)
        pair[0] = 5
        changes.clear()
        self.same(machine.changes, ((0, 1), (1, 0)))
        self.same(machine.leads(0), (1,))

    def test_equal(self):
        one, other = Machine(3, [(0, 1), (1, 2)]), Machine(3, ([1, 2], [0, 1]))
        self.same(one == other, True)
        self.same(one != other, False)
        for value in (Machine(4, [(0, 1), (1, 2)]), Machine(3, [(0, 1)]), Machine(3, [(0, 1), (2, 1)]), None, 3,
                      "3 / 0 1 / 1 2", (3, ((0, 1), (1, 2)))):
            self.same(one == value, False)
            self.same(value == one, False)

    def test_leads(self):
        die = dice(5)
        for _ in range(40):
            machine = any_machine(die, die.randrange(1, 9))
            for state in range(machine.states):
                self.same(machine.leads(state), tuple(new for new in range(machine.states)
                                                      if (state, new) in machine.changes))
            for state in NO_INTEGERS + (-1, machine.states, 2 ** 70):
                self.fails(BadNumber("state"), machine.leads, state)
        self.same(any_to_any(64).leads(state=63), tuple(range(63)))


class Texts(Case):
    def test_text(self):
        for machine, text in ((Machine(1, []), "1"), (Machine(64, []), "64"), (Machine(2, [(1, 0)]), "2 / 1 0"),
                              (Machine(64, [(63, 10), (9, 10), (9, 2)]), "64 / 9 2 / 9 10 / 63 10")):
            self.same(str(machine), text)
            self.same(Machine.read(text) == machine, True)
            self.same(machine.read(text=text) == machine, True)

    def test_back_and_forth(self):
        die = dice(6)
        for _ in range(60):
            machine = any_machine(die, die.randrange(1, 9))
            told = Machine.read(str(machine))
            self.assertIs(type(told), Machine)
            self.same((told.states, told.changes), (machine.states, machine.changes))
        with self.in_short():
            self.same(Machine.read(str(any_to_any(64))) == any_to_any(64), True)

    def test_no_strings(self):
        for value in NO_STRINGS + (Machine(2, []),):
            self.fails(BadText(0, 0), Machine.read, value)

    def test_bent(self):
        for text in ("1", "3 / 0 1", "4 / 0 1 / 1 3 / 2 1", "12 / 0 11 / 10 0"):
            for bent, item in texts_bent(text):
                if bent != text:
                    self.fails(BadText(0, item), Machine.read, bent)

    def test_left_out_and_doubled(self):
        for text, item in (("", 0), ("3 /", 2), ("3 / 1", 3), ("3 / 1 0 /", 5), ("3 / 1 0 / 2", 6), ("3 1 0", 1),
                           ("/ 0 1", 0), ("3 / / 0 1", 2), ("3 / 0 1 1", 4), ("3 3", 1), ("3 / 0 1 2 / 1 0", 4),
                           ("3 / 0 / 1 0", 3), ("2 / 0 1 / 1 0 /", 8), ("1 /", 2), ("1 / 0", 3)):
            self.fails(BadText(0, item), Machine.read, text)

    def test_states_that_cannot_stand(self):
        for text, item in (("0", 0), ("65", 0), ("64 / 64 0", 2), ("64 / 0 64", 3), ("3 / 3 0", 2), ("3 / 0 3", 3),
                           ("3 / 1 1", 3), ("3 / 0 0", 3), ("1 / 0 0", 3), ("1 / 1 0", 2), ("3 / -1 0", 2)):
            self.fails(BadText(0, item), Machine.read, text)

    def test_changes_that_do_not_ascend(self):
        for text, item in (("3 / 1 0 / 0 1", 5), ("3 / 0 2 / 0 1", 6), ("3 / 0 1 / 0 1", 6), ("3 / 2 0 / 1 3", 5),
                           ("3 / 1 0 / 1 2 / 0 1", 8), ("12 / 10 0 / 9 0", 5), ("12 / 0 10 / 0 9", 6),
                           ("3 / 1 0 / 0", 5), ("3 / 1 0 / 0 x", 5), ("3 / 1 2 / 1 0", 6)):
            self.fails(BadText(0, item), Machine.read, text)

    def test_first_wrong_item_is_told(self):
        for text, item in (("x / 1 1", 0), ("3 / 1 1 / x", 3), ("3 / x 9", 2), ("3 / 0 1 x 0 0", 4),
                           ("3 / 0 9 / 0", 3)):
            self.fails(BadText(0, item), Machine.read, text)


class Made(Case):
    def test_kinds(self):
        for states in (1, 2, 3, 4, 5, 17, 63, 64):
            for make, is_change in (
                    (any_to_any, lambda old, new: True),
                    (line, lambda old, new: abs(old - new) == 1),
                    (ring, lambda old, new: (old - new) % states in (1, states - 1)),
                    (hub, lambda old, new: 0 in (old, new))):
                if make is ring and states == 1:
                    continue
                with self.in_short():
                    machine = make(states=states)
                self.assertIs(type(machine), Machine)
                self.same(machine.states, states)
                self.same(machine.changes, changes_by_all(states, is_change))
                self.same(make(states) == machine, True)

    def test_states_fail(self):
        for make in (any_to_any, line, ring, hub):
            for states in NO_INTEGERS + (0, -1, 65, 2 ** 70):
                self.fails(BadNumber("states"), make, states)
        self.fails(BadNumber("states"), ring, 1)

    def test_beside(self):
        die = dice(7)
        for _ in range(60):
            one, other = any_machine(die, die.randrange(1, 8)), any_machine(die, die.randrange(1, 9))
            both = beside(one=one, other=other)
            many = one.states

            def is_change(old, new):
                low = (old % many, new % many)
                high = (old // many, new // many)
                return (low in one.changes and high[0] == high[1]) or (high in other.changes and low[0] == low[1])
            self.same(both.states, one.states * other.states)
            self.same(both.changes, changes_by_all(both.states, is_change))

    def test_beside_at_the_edges(self):
        self.same(beside(ring(8), ring(8)).states, 64)
        self.same(beside(ring(64), line(1)) == ring(64), True)
        self.same(beside(line(1), ring(64)) == ring(64), True)
        for one, other in ((5, 13), (13, 5), (64, 2), (2, 33)):
            self.fails(Misfit("states"), beside, ring(one), ring(other))

    def test_beside_fails(self):
        for value in NO_MACHINES:
            self.fails(BadMachine("one"), beside, value, ring(3))
            self.fails(BadMachine("one"), beside, value, None)
            self.fails(BadMachine("other"), beside, ring(3), value)

    def test_both_ways(self):
        die = dice(8)
        for _ in range(40):
            machine = any_machine(die, die.randrange(1, 8))
            both = both_ways(machine=machine)
            self.same(both.states, machine.states)
            self.same(both.changes, changes_by_all(machine.states, lambda old, new: (old, new) in machine.changes
                                                   or (new, old) in machine.changes))
        for value in NO_MACHINES:
            self.fails(BadMachine("machine"), both_ways, value)

    def test_fewest_leads(self):
        die = dice(9)
        for _ in range(60):
            machine = any_machine(die, die.randrange(1, 7))
            counts = [0] * machine.states
            for old, _ in machine.changes:
                counts[old] += 1
            self.same(fewest_leads(machine=machine), min(counts))
        self.same(fewest_leads(Machine(1, [])), 0)
        self.same(fewest_leads(any_to_any(64)), 63)
        self.same(fewest_leads(Machine(3, [(0, 1), (0, 2), (1, 0)])), 0)
        for value in NO_MACHINES:
            self.fails(BadMachine("machine"), fewest_leads, value)


if __name__ == "__main__":
    unittest.main()
