import unittest

from oneflip.errors import BadNumber, BadPhases, Misfit
from oneflip.wear import flips_by_bit, most_worn
from tests.tools import BAD_PHASES, NO_INTEGERS, NO_LISTS, Case, dice


def any_plans(die, bits):
    return [[die.sample(range(bits), die.randrange(1, min(bits, 5) + 1)) for _ in range(die.randrange(4))]
            for _ in range(die.randrange(5))]


class Wear(Case):
    def test_some_plans(self):
        die = dice(121)
        for _ in range(300):
            bits = die.randrange(1, 9)
            plans, many = any_plans(die, bits), bits + die.randrange(3)
            often = tuple(sum(phase.count(bit) for phases in plans for phase in phases) for bit in range(many))
            self.same(flips_by_bit(plans=plans, many=many), often)
            first = sorted(range(many), key=lambda bit: (-often[bit], bit))[0]
            self.same(most_worn(plans=plans, many=many), first if any(often) else None)
            same = tuple(tuple(tuple(phase) for phase in phases) for phases in plans)
            self.same(flips_by_bit(same, many), often)
            self.same(most_worn(same, many), first if any(often) else None)

    def test_the_first_of_those_that_flip_most(self):
        self.same(most_worn([[[3, 1]], [[2], [2]]], 4), 2)
        self.same(most_worn([[[3, 1]], [[2]]], 4), 1)
        self.same(most_worn([[[3], [1]], [[3, 1]]], 4), 1)
        self.same(most_worn([[[0]]], 4), 0)
        self.same(most_worn([[[19999]]], 20000), 19999)

    def test_none_flips(self):
        for plans in ([], (), [[]], [[], ()], ([],)):
            self.same(flips_by_bit(plans, 1), (0,))
            self.same(flips_by_bit(plans, 20000), (0,) * 20000)
            self.same(most_worn(plans, 1), None)
            self.same(most_worn(plans, 20000), None)

    def test_bits_at_the_edge(self):
        for call in (flips_by_bit, most_worn):
            for many in (1, 4, 19999, 20000):
                self.fails(Misfit("plans"), call, [[[many]]], many)
                self.fails(Misfit("plans"), call, [[], [[0], [0, many]], [[0]]], many)
                self.fails(Misfit("plans"), call, [[[20000]]], many)
        self.same(flips_by_bit([[[19999, 0]]], 20000), (1,) + (0,) * 19998 + (1,))
        self.same(flips_by_bit([[[19998]]], 19999), (0,) * 19998 + (1,))
        self.same(flips_by_bit([[[0]], [[0]]], 1), (2,))
        with self.in_short():
            self.same(flips_by_bit([[list(range(20000))] * 3] * 3, 20000), (9,) * 20000)

    def test_fails(self):
        for call in (flips_by_bit, most_worn):
            for plans in NO_LISTS + tuple([[[0]], phases] for phases in BAD_PHASES) + ([[0]], [[[0], []]], [[[[0]]]],
                                                                                       [0], [[[0, 0]]], [[[20001]]]):
                self.fails(BadPhases("plans"), call, plans, 4)
                self.fails(BadPhases("plans"), call, plans, None)
            for many in NO_INTEGERS + (0, -1, 20001, 2 ** 70):
                self.fails(BadNumber("many"), call, [], many)
                self.fails(BadNumber("many"), call, [[[20000]]], many)

    def test_what_is_passed_stays(self):
        plans = [[[3, 0], [1]]]
        flips_by_bit(plans, 4)
        most_worn(plans, 4)
        self.same(plans, [[[3, 0], [1]]])


if __name__ == "__main__":
    unittest.main()
