import unittest
from itertools import product

from oneflip.bounds import Few, Tight, between, counted, fewest_enough, flips_needed, least_bits, why_not
from oneflip.codes import Code, code_for
from oneflip.doubles import listed
from oneflip.errors import BadLayout, BadMachine, BadNumber, Misfit
from oneflip.kept import kept_of, stands_for
from oneflip.layouts import Layout
from oneflip.machines import Machine, any_to_any, fewest_leads, hub, ring
from oneflip.papers import Denial, Paper
from oneflip.rings import hub_layout, ring_layout
from oneflip.words import most_pairs
from tests.reckon import flips_apart, kept_by_worth, pieces_by_joining
from tests.tools import NO_INTEGERS, NO_LAYOUTS, NO_MACHINES, Case, any_layout, any_machine, dice

MOST = 2 ** 199


def is_enough(states, leads, bits):
    """By the short form of what is enough: n (k - 2) is at most (d - 2) 2 ** d."""
    return states <= 2 ** bits and (leads < 2 or states * (leads - 2) <= (bits - 2) * 2 ** bits)


def words_within(bits, flips):
    """How many words of so many bits have so many ones at most, by rows of sums of two."""
    row = [1]
    for _ in range(bits):
        row = [one + other for one, other in zip(row + [0], [0] + row)]
    return sum(row[:flips + 1])


class Least(Case):
    def test_small(self):
        for states in range(1, 80):
            for leads in range(states):
                wanted = next(bits for bits in range(20) if is_enough(states, leads, bits))
                self.same(least_bits(states=states, leads=leads), wanted)

    def test_great(self):
        die = dice(81)
        for _ in range(200):
            states = die.choice((MOST, MOST - 1, MOST // 2 + 1, die.randrange(1, 2 ** die.randrange(1, 199))))
            leads = min(states - 1, die.choice((0, 1, 2, 3, states - 1, die.randrange(2 ** die.randrange(1, 199)))))
            with self.in_short():
                told = least_bits(states, leads)
            self.same(is_enough(states, leads, told), True)
            self.same(any(is_enough(states, leads, bits) for bits in range(told)), False)

    def test_edges(self):
        self.same(least_bits(1, 0), 0)
        self.same([least_bits(2, leads) for leads in (0, 1)], [1, 1])
        self.same([least_bits(3, leads) for leads in (0, 1, 2)], [2, 2, 2])
        self.same([least_bits(4, leads) for leads in (0, 1, 2, 3)], [2, 2, 2, 3])
        self.same(least_bits(MOST, 0), 199)
        self.same(least_bits(MOST, 1), 199)
        self.same(least_bits(MOST, 2), 199)
        # As many leads as bits are room enough in all words, but not one more.
        self.same([least_bits(2 ** 10, leads) for leads in (10, 11)], [10, 11])

    def test_fails(self):
        for call, rest in ((least_bits, ()), (why_not, (None,))):
            for states in NO_INTEGERS + (0, -1, MOST + 1, 2 ** 400):
                self.fails(BadNumber("states"), call, states, 0, *rest)
                self.fails(BadNumber("states"), call, states, None, *rest)
            for leads in NO_INTEGERS + (-1, 7, 8, MOST):
                self.fails(BadNumber("leads"), call, 7, leads, *rest)
            self.fails(BadNumber("leads"), call, 1, 1, *rest)
            self.fails(BadNumber("leads"), call, MOST, MOST, *rest)

    def test_of_any_size(self):
        self.same(fewest_enough(2 ** 12288, 1), 12288)
        self.same(fewest_enough(2 ** 12288 + 1, 0), 12289)
        self.same(fewest_enough(2 ** 12288, 12289), 12289)


class WhyNot(Case):
    def test_small(self):
        seen = {Few: 0, Tight: 0, type(None): 0}
        for states in range(1, 24):
            for leads in range(states):
                for bits in range(9):
                    told = why_not(states=states, leads=leads, bits=bits)
                    seen[type(told)] += 1
                    if is_enough(states, leads, bits):
                        self.same(told, None)
                    elif 2 ** bits < states:
                        self.assertIs(type(told), Few)
                        self.same(told.words, 2 ** bits)
                    else:
                        self.assertIs(type(told), Tight)
                        self.same(told.parts, (2 * (2 ** bits - states), states * leads, bits * 2 ** bits))
                        self.assertGreater(told.inside + told.across, told.most)
                    self.same(told is None, bits >= least_bits(states, leads))
        self.assertGreater(min(seen.values()), 50)

    def test_edges(self):
        self.same(why_not(1, 0, 0), None)
        self.same(why_not(2, 1, 0).parts, (1,))
        self.same(why_not(MOST, MOST - 1, 0).parts, (1,))
        self.same(why_not(MOST, MOST - 1, 198).parts, (2 ** 198,))
        self.same(why_not(MOST, MOST - 1, 199).parts, (0, MOST * (MOST - 1), 199 * MOST))
        self.same(why_not(MOST, MOST - 1, 400), None)
        self.same(why_not(4, 3, 2).parts, (0, 12, 8))
        self.same(why_not(8, 7, 4).parts, (16, 56, 64))

    def test_bits_fail(self):
        for bits in NO_INTEGERS + (-1, 401, 2 ** 70):
            self.fails(BadNumber("bits"), why_not, 4, 3, bits)
        self.fails(BadNumber("leads"), why_not, 4, 4, 401)

    def test_papers(self):
        for few in (Few([8, [1]]), Few(words=(8, (1,)))):
            self.same((few.word, few.words, few.parts, bool(few)), ("few", (8, (1,)), ((8, (1,)),), True))
        for tight in (Tight([1], 2, None), Tight(most=None, across=2, inside=(1,))):
            self.same((tight.word, tight.inside, tight.across, tight.most), ("tight", (1,), 2, None))
            self.same((tight.parts, bool(tight)), (((1,), 2, None), True))
        for kind in (Few, Tight):
            self.assertEqual(kind.__bases__, (Paper,))
        self.same(Few(8) == Few(8), True)
        self.same(Tight(1, 2, [3]) == Tight(1, 2, (3,)), True)
        for one, other in ((Few(8), Few(9)), (Few(8), Paper("few", 8)), (Few(8), Denial("few", 8)), (Few(8), 8),
                           (Tight(1, 2, 3), Tight(2, 1, 3)), (Tight(1, 2, 3), Paper("tight", 1, 2, 3)),
                           (Tight(1, 2, 3), Tight(1, 2, 4)), (Few((1, 2, 3)), Tight(1, 2, 3))):
            self.same(one == other, False)
            self.same(other == one, False)


class Between(Case):
    def test_pairs(self):
        for values in list(range(2, 200)) + [2 ** 60, 3 * 2 ** 60, 2 ** 60 + 1, MOST - 1, MOST, 2 ** 198 + 1]:
            low, high = between(values=values)
            self.same(is_enough(values, values - 1, low), True)
            self.same(is_enough(values, values - 1, low - 1), False)
            self.same(high, code_for(values).bits)
            self.assertIs(type(between(values)), tuple)
            self.assertLessEqual(low, high)
        self.same(between(2), (1, 1))
        self.same(between(4), (3, 3))

    def test_fails(self):
        for values in NO_INTEGERS + (1, 0, -1, MOST + 1, 2 ** 200):
            self.fails(BadNumber("values"), between, values)


class Flips(Case):
    def test_small(self):
        for bits in range(11):
            for values in range(1, 2 ** bits + 1):
                told = flips_needed(values=values, bits=bits)
                self.assertGreaterEqual(words_within(bits, told), values)
                if told:
                    self.assertLess(words_within(bits, told - 1), values)

    def test_by_going_through_words(self):
        for bits in range(1, 9):
            by_ones = [sum(1 for word in range(2 ** bits) if flips_apart(word, 5 % 2 ** bits) <= many)
                       for many in range(bits + 1)]
            for values in range(1, 2 ** bits + 1):
                self.same(flips_needed(values, bits), next(many for many, words in enumerate(by_ones)
                                                           if words >= values))

    def test_edges(self):
        self.same(flips_needed(1, 0), 0)
        self.same(flips_needed(1, 400), 0)
        self.same(flips_needed(2, 400), 1)
        self.same(flips_needed(401, 400), 1)
        self.same(flips_needed(402, 400), 2)
        self.same(flips_needed(2 ** 199, 199), 199)
        self.same(flips_needed(2 ** 199 - 1, 199), 198)
        for values, bits in ((MOST, 400), (MOST, 397), (MOST - 1, 250)):
            with self.in_short():
                told = flips_needed(values, bits)
            self.assertGreaterEqual(words_within(bits, told), values)
            self.assertLess(words_within(bits, told - 1), values)

    def test_fails(self):
        for values in NO_INTEGERS + (0, -1, MOST + 1, 2 ** 400):
            self.fails(BadNumber("values"), flips_needed, values, 0)
            self.fails(BadNumber("values"), flips_needed, values, None)
        for bits in NO_INTEGERS + (-1, 401, 2 ** 70):
            self.fails(BadNumber("bits"), flips_needed, 2, bits)
        for bits in (0, 1, 2, 7, 198):
            self.fails(Misfit("values"), flips_needed, 2 ** bits + 1, bits)
            self.fails(Misfit("values"), flips_needed, MOST, bits)
            self.same(flips_needed(2 ** bits, bits), bits)


class Counted(Case):
    def test_small_layouts(self):
        die = dice(82)
        seen = 0
        for _ in range(300):
            states = die.randrange(1, 6)
            layout = any_layout(die, die.randrange(1, 5), states, die.randrange(3))
            machine = any_machine(die, states)
            told = counted(layout=layout, machine=machine)
            self.same(told, self.by_pairs(layout, machine))
            pieces, words, inside, across = told
            seen += 0 < words < 2 ** layout.bits
            self.assertGreaterEqual(inside, words - pieces)
            self.assertLessEqual(inside + across, most_pairs(words))
            if words:
                leads = min(len(machine.leads(layout.means[word])) for word in kept_of(layout, machine))
                self.assertGreaterEqual(2 * across, pieces * leads)
        self.assertGreater(seen, 50)

    def by_pairs(self, layout, machine):
        kept = kept_by_worth(layout, machine)
        pieces = [words for _, words in pieces_by_joining(layout) if set(words) <= set(kept)]
        pairs = [(one, other) for one in kept for other in kept if one < other and flips_apart(one, other) == 1]
        inside = [(one, other) for one, other in pairs if any(one in words and other in words for words in pieces)]
        return len(pieces), len(kept), len(inside), len(pairs) - len(inside)

    def test_edges(self):
        self.same(counted(Layout(2, [None] * 4), ring(2)), (0, 0, 0, 0))
        self.same(counted(Layout(2, [0, 1, 2, 3]), ring(4)), (0, 0, 0, 0))
        self.same(counted(Layout(2, [0, None, None, 0]), Machine(1, [])), (2, 2, 0, 0))
        self.same(counted(Layout(3, [0, 1, None, None, None, None, None, 0]), any_to_any(2)), (2, 2, 0, 1))
        self.same(counted(Layout(8, [0] * 256), Machine(1, [])), (1, 256, 1024, 0))
        self.same(counted(Layout(8, [word % 2 for word in range(256)]), ring(2)), (2, 256, 896, 128))
        with self.in_short():
            self.same(counted(Layout(8, [bin(word).count("1") % 2 for word in range(256)]), ring(2)), (256, 256, 0, 1024))

    def test_fails(self):
        for value in NO_LAYOUTS:
            self.fails(BadLayout("layout"), counted, value, None)
        for value in NO_MACHINES:
            self.fails(BadMachine("machine"), counted, Layout(1, [0, 7]), value)
        self.fails(Misfit("layout"), counted, Layout(1, [0, 2]), ring(2))


class Facts(Case):
    def test_no_layout_has_fewer_bits_than_are_enough(self):
        for bits in (1, 2):
            for states in range(1, 5):
                die = dice(83)
                machines = [any_to_any(states), hub(states)] + [any_machine(die, states) for _ in range(4)]
                for machine in machines:
                    least = least_bits(states, fewest_leads(machine))
                    for means in product((None, *range(states)), repeat=2 ** bits):
                        if stands_for(Layout(bits, means), machine):
                            self.assertGreaterEqual(bits, least)

    def test_made_layouts(self):
        for states in range(2, 20):
            self.assertGreaterEqual(ring_layout(states).bits, least_bits(states, 1 if states == 2 else 2))
            self.assertGreaterEqual(hub_layout(states).bits, least_bits(states, 1))
        for base in (2, 3):
            for doubles in range(4):
                code = Code(base, doubles)
                self.same(stands_for(listed(code), any_to_any(code.many)), True)
                self.assertGreaterEqual(code.bits, least_bits(code.many, code.many - 1))


if __name__ == "__main__":
    unittest.main()
