import unittest
from itertools import product

from oneflip.check_bounds import shows_found
from oneflip.errors import BadMachine, BadNumber, TooMany
from oneflip.kept import stands_for
from oneflip.layouts import Layout
from oneflip.machines import Machine, any_to_any, hub, line, ring
from oneflip.papers import Denial, Paper
from oneflip.trials import Found, Not, smallest
from tests.reckon import kept_by_worth
from tests.tools import NO_INTEGERS, NO_MACHINES, Case, any_machine, dice


def stands(means, bits, machine):
    layout = Layout(bits, means)
    meant = [word for word, state in enumerate(means) if state is not None]
    return set(means) - {None} == set(range(machine.states)) and list(kept_by_worth(layout, machine)) == meant


def some_machines():
    die = dice(111)
    yield from (Machine(1, []), Machine(2, []), Machine(4, []), Machine(2, [(0, 1)]), any_to_any(2), any_to_any(3),
                any_to_any(4), ring(4), line(3), line(4), hub(4), Machine(4, [(0, 3), (3, 0)]))
    for _ in range(25):
        yield any_machine(die, die.randrange(1, 5))


class Trials(Case):
    def test_a_layout_is_found_exactly_if_there_is_one(self):
        seen = set()
        for machine in some_machines():
            for bits in (1, 2):
                choice = (None, *range(machine.states))
                all_means = [means for means in product(choice, repeat=2 ** bits) if stands(means, bits, machine)]
                told = smallest(machine=machine, bits=bits)
                seen.add((type(told), bits, machine.states))
                self.same(told == smallest(Machine(machine.states, list(machine.changes)), bits), True)
                self.same(shows_found(machine, bits, told), True)
                if all_means:
                    self.assertIs(type(told), Found)
                    self.assertIn(told.means, all_means)
                    self.same(stands_for(Layout(bits, told.means), machine), True)
                else:
                    self.assertIs(type(told), Not)
                    self.same(told.bits, bits)
        self.assertLessEqual({(Found, 1, 1), (Found, 2, 1), (Found, 1, 2), (Found, 2, 4), (Not, 1, 3), (Not, 2, 4),
                              (Found, 2, 3), (Not, 1, 4)}, seen)

    def test_edges(self):
        self.same(bool(smallest(Machine(1, []), 1)), True)
        self.same(bool(smallest(Machine(2, []), 1)), True)
        self.same(bool(smallest(Machine(4, []), 2)), True)
        self.same(smallest(any_to_any(4), 2).parts, (2,))
        self.same(smallest(any_to_any(4), 1).parts, (1,))
        self.same(smallest(any_to_any(3), 1).bits, 1)
        with self.in_short():
            for machine in (any_to_any(4), Machine(4, [(0, 1), (0, 2), (0, 3), (1, 2)])):
                smallest(machine, 2)

    def test_fails(self):
        for value in NO_MACHINES:
            self.fails(BadMachine("machine"), smallest, value, None)
            self.fails(BadMachine("machine"), shows_found, value, None, None)
        for states in (1, 4, 5, 64):
            for bits in NO_INTEGERS + (0, 3, -1, 2 ** 70):
                self.fails(BadNumber("bits"), smallest, Machine(states, []), bits)
                self.fails(BadNumber("bits"), shows_found, Machine(states, []), bits, None)
        for machine in (Machine(5, []), ring(5), any_to_any(64)):
            for bits in (1, 2):
                self.fails(TooMany("states", 4), smallest, machine, bits)
                self.fails(TooMany("states", 4), shows_found, machine, bits, Not(bits))


class Papers(Case):
    def test_parts(self):
        for found in (Found([2, [1], None]), Found(means=(2, (1,), None))):
            self.same((found.word, found.means, found.parts, bool(found)),
                      ("found", (2, (1,), None), ((2, (1,), None),), True))
        for told in (Not([2]), Not(bits=(2,))):
            self.same((told.word, told.bits, told.parts, bool(told)), ("not", (2,), ((2,),), False))
        self.assertEqual(Found.__bases__, (Paper,))
        self.assertEqual(Not.__bases__, (Denial,))
        self.same(Found([0, 1]) == Found((0, 1)), True)
        self.same(Not(1) == Not(1), True)
        for one, other in ((Found([0, 1]), Found([1, 0])), (Found([0, 1]), Paper("found", [0, 1])), (Not(1), Not(2)),
                           (Not(1), Denial("not", 1)), (Not(1), Found(1)), (Not(1), 1), (Not(1), False)):
            self.same(one == other, False)
            self.same(other == one, False)


if __name__ == "__main__":
    unittest.main()
