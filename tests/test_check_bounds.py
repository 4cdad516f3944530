import unittest
from itertools import product

from oneflip.bounds import Few, Tight, why_not
from oneflip.check_bounds import shows_found, shows_why
from oneflip.errors import BadNumber
from oneflip.machines import Machine, any_to_any, ring
from oneflip.papers import Denial, Paper
from oneflip.trials import Found, Not
from tests.test_trials import some_machines, stands
from tests.tools import NO_INTEGERS, Case, Odd

NO_PAPERS = (None, True, False, 0, 8, "few", (8,), [16, 56, 64], {}, Odd(), Few, Tight, Found, Not, object(),
             Paper("few", 8), Denial("few", 8), Paper("tight", 16, 56, 64), Paper("found", [0, 1]), Denial("not", 1),
             Denial("not", 2), Paper("found", [2, 1, 0, 0]), Machine(2, []))


class Why(Case):
    def test_just_what_is_told(self):
        seen = 0
        for states in range(1, 12):
            for leads in range(states):
                for bits in range(6):
                    told = why_not(states, leads, bits)
                    wanted = None if told is None else told.parts
                    for value in [Few(2 ** bits), Few(2 ** bits + 1), Few(2 ** bits - 1), Few(states)]:
                        self.same(shows_why(states, leads, bits, value), isinstance(told, Few)
                                  and value.words == 2 ** bits)
                    right = (2 * (2 ** bits - states), states * leads, bits * 2 ** bits)
                    for bent in product((-1, 0, 1), repeat=3):
                        parts = [part + more for part, more in zip(right, bent)]
                        shown = shows_why(states=states, leads=leads, bits=bits, value=Tight(*parts))
                        self.same(shown, isinstance(told, Tight) and tuple(parts) == wanted)
                        seen += shown
        self.assertGreater(seen, 20)

    def test_what_shows_it_otherwise(self):
        # Each of these is more than the most, but only what why_not tells is right.
        for value in (Tight(14, 58, 64), Tight(16, 56, 63), Tight(8, 28, 32), Tight(56, 16, 64), Tight(16, 64, 56),
                      Few(16), Few(7), Tight(0, 65, 64)):
            self.same(shows_why(8, 7, 4, value), False)
        self.same(shows_why(8, 7, 4, Tight(16, 56, 64)), True)
        self.same(shows_why(9, 8, 3, Few(8)), True)
        self.same(shows_why(9, 8, 3, Tight(-2, 72, 24)), False)
        self.same(shows_why(2 ** 199, 2 ** 199 - 1, 0, Few(1)), True)

    def test_parts_of_wrong_kinds(self):
        for words in (None, "8", 8.0, [8], (8,), True, Odd(), {8}, 8 + 0j, [], Few(8)):
            self.same(shows_why(9, 8, 3, Few(words)), False)
        for parts in ((16.0, 56, 64), (16, "56", 64), (16, 56, [64]), (None, 56, 64), ((16, 56), 64, 0), (16, 56, None),
                      (Odd(), 56, 64), ([16, 56, 64], 0, 0), (16, Odd(), Odd())):
            self.same(shows_why(8, 7, 4, Tight(*parts)), False)
        # One word, of no bits, where two states are: no truth stands for it.
        self.same(shows_why(2, 1, 0, Few(1)), True)
        self.same(shows_why(2, 1, 0, Few(True)), False)
        self.same(shows_why(4, 3, 2, Tight(0, 12, 8)), True)
        self.same(shows_why(4, 3, 2, Tight(False, 12, 8)), False)

    def test_values_that_are_no_such_papers(self):
        for value in NO_PAPERS + (Found(8), Not(8)):
            for told in ((8, 7, 4), (9, 8, 3), (7, 6, 4), (1, 0, 0)):
                self.same(shows_why(*told, value), False)

    def test_fails(self):
        for value in (None, Few(1), Tight(0, 12, 8)):
            for states in NO_INTEGERS + (0, -1, 2 ** 199 + 1):
                self.fails(BadNumber("states"), shows_why, states, None, None, value)
            for leads in NO_INTEGERS + (-1, 4, 2 ** 70):
                self.fails(BadNumber("leads"), shows_why, 4, leads, None, value)
            for bits in NO_INTEGERS + (-1, 401, 2 ** 70):
                self.fails(BadNumber("bits"), shows_why, 4, 3, bits, value)


class Shown(Case):
    def test_all_means(self):
        right = 0
        for machine in list(some_machines())[:22]:
            for bits in (1, 2):
                there = False
                for means in product((None, *range(machine.states)), repeat=2 ** bits):
                    wanted = stands(means, bits, machine)
                    there = there or wanted
                    right += wanted
                    self.same(shows_found(machine=machine, bits=bits, value=Found(means)), wanted)
                for told in (1, 2):
                    self.same(shows_found(machine, bits, Not(told)), not there and told == bits)
        self.assertGreater(right, 100)

    def test_found_of_wrong_kinds(self):
        machine = any_to_any(3)
        self.same(shows_found(machine, 2, Found([2, 1, 0, 0])), True)
        self.same(shows_found(machine, 2, Found((2, 1, 0, 0))), True)
        for means in (None, 0, "2100", {}, {2, 1, 0}, [], [2, 1, 0], [2, 1, 0, 0, 0], [2, 1, 0, 0, None], [2, True, 0, 0],
                      [2, 1, False, 0], [2, 1, 0, False], [2.0, 1, 0, 0], ["2", 1, 0, 0], [[2], 1, 0, 0],
                      [2, 1, 0, [0]], [[2, 1, 0, 0]], [3, 1, 0, 0], [2, 1, 0, 3], [63, 1, 0, 0], [64, 1, 0, 0],
                      [-1, 1, 0, 0], [2 ** 70, 1, 0, 0], [Odd(), 1, 0, 0], [0, 1, 2, None], [2, 1, 0, 0] * 2,
                      [2, 1], Found([2, 1, 0, 0])):
            self.same(shows_found(machine, 2, Found(means)), False, means)
        self.same(shows_found(machine, 1, Found([2, 1, 0, 0])), False)
        self.same(shows_found(any_to_any(2), 1, Found([1, 0])), True)
        self.same(shows_found(any_to_any(2), 1, Found([True, False])), False)
        self.same(shows_found(any_to_any(2), 2, Found([1, 0])), False)
        self.same(shows_found(any_to_any(2), 1, Found([0, 0])), False)
        self.same(shows_found(Machine(1, []), 1, Found([0, None])), True)

    def test_not_of_wrong_kinds(self):
        self.same(shows_found(any_to_any(4), 2, Not(2)), True)
        self.same(shows_found(any_to_any(3), 1, Not(1)), True)
        for bits in (None, "2", 2.0, [2], (2,), True, False, 0, 1, 3, -2, Odd()):
            self.same(shows_found(any_to_any(4), 2, Not(bits)), False)
        for bits in (True, 1.0, [1], "1", 2, 0, Odd()):
            self.same(shows_found(any_to_any(3), 1, Not(bits)), False)
        for machine, bits in ((any_to_any(3), 2), (ring(4), 2), (any_to_any(2), 1)):
            self.same(shows_found(machine, bits, Not(bits)), False)

    def test_values_that_are_no_such_papers(self):
        for value in NO_PAPERS + (Few([2, 1, 0, 0]), Few(2)):
            for machine, bits in ((any_to_any(3), 2), (any_to_any(4), 2), (any_to_any(2), 1), (any_to_any(3), 1)):
                self.same(shows_found(machine, bits, value), False)

    def test_what_is_passed_is_copied(self):
        means = [2, 1, 0, 0]
        found = Found(means)
        means[0] = 0
        self.same(shows_found(any_to_any(3), 2, found), True)


if __name__ == "__main__":
    unittest.main()
