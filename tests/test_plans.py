import unittest

from oneflip.codes import Code
from oneflip.doubles import listed
from oneflip.errors import BadLayout, BadMachine, BadNumber, BadPhases, BadWord, Misfit, TooMany
from oneflip.kept import kept_of, road
from oneflip.layouts import Layout
from oneflip.machines import Machine, any_to_any, ring
from oneflip.papers import Denial, Paper
from oneflip.phases import cut_words, landed
from oneflip.plans import Safe, Short, Torn, judged_plan, least_plan, let_phases
from tests.reckon import flips_apart, let_by_trying, lots, plans_by_trying, with_flips
from tests.tools import (BAD_PHASES, NO_INTEGERS, NO_LAYOUTS, NO_MACHINES, Case, any_layout, any_machine, dice)

FOUR = Layout(3, [0, 0, 3, 2, 1, 2, 1, 2])
LANE = Layout(2, [0, 1, None, None])
ONE_WAY = Machine(3, [(0, 1), (1, 2)])
WIDE = Layout(8, [0] * 255 + [1])
TWO = any_to_any(2)
TWO_ON = Machine(2, [(0, 1)])


def some_changes(seed, many, bits=4, states=3):
    """Quadruples of a layout, a machine, a kept word and a state to which its state changes."""
    die = dice(seed)
    told = 0
    while told < many:
        count = die.randrange(2, states + 1)
        layout = any_layout(die, die.randrange(1, bits + 1), count, die.randrange(2))
        machine = any_machine(die, count)
        kept = kept_of(layout, machine)
        changes = [(word, state) for word in kept for state in machine.leads(layout.means[word])]
        if changes:
            told += 1
            yield layout, machine, *die.choice(changes)


def any_phases(die, bits, many):
    return [die.sample(range(bits), die.choice((1, 1, min(2, bits), die.randrange(1, bits + 1))))
            for _ in range(die.randrange(many))]


def told_by_cuts(layout, machine, word, phases, state):
    """What is to be told of phases, by each cut in them: a tuple of the paper's word and its parts."""
    let = let_by_trying(layout, machine, word, state)
    lie, here = {word}, word
    for number, phase in enumerate(phases):
        flips = sorted(phase)
        for lot in lots(range(len(flips))):
            there = with_flips(here, [flips[at] for at in lot])
            lie.add(there)
            if there not in let:
                return "torn", number, lot
        here = with_flips(here, flips)
    return ("safe", tuple(sorted(lie))) if layout.means[here] == state else ("short", here)


class Let(Case):
    def test_small_layouts(self):
        many = 0
        for layout, machine, word, state in some_changes(151, 200):
            let = let_by_trying(layout, machine, word, state)
            wanted = tuple(phase for phase in lots(range(layout.bits))
                           if phase and all(with_flips(word, lot) in let for lot in lots(phase)))
            many += len(wanted) > layout.bits
            told = let_phases(layout=layout, machine=machine, word=word, state=state)
            self.same(told, wanted)
            for phase in told:
                self.assertLessEqual({lot for lot in lots(phase) if lot}, set(told))
        self.assertGreater(many, 20)

    def test_eight_bits(self):
        with self.in_short():
            self.same(let_phases(WIDE, TWO, 0, 1), tuple(phase for phase in lots(range(8)) if phase))
            self.same(let_phases(WIDE, TWO, 255, 0), tuple(phase for phase in lots(range(8)) if phase))
        board = Layout(8, [bin(word).count("1") % 4 for word in range(256)])
        machine = Machine(4, [(0, 1), (1, 0), (2, 1), (3, 2)])
        self.same(let_phases(board, machine, 0, 1), tuple((bit,) for bit in range(8)))

    def test_none(self):
        # Words that mean the old state, or the new one, but are not kept, are not let.
        layout = Layout(3, [0, 1, 0, None, None, None, 1, 2])
        machine = Machine(3, [(0, 1), (1, 2)])
        self.same(let_phases(layout, machine, 0, 1), ((1,),))
        self.same(let_phases(layout, machine, 6, 2), ((0,),))


class Judged(Case):
    def test_small_layouts(self):
        die = dice(152)
        seen = {"safe": 0, "torn": 0, "short": 0}
        for layout, machine, word, state in some_changes(152, 100):
            for _ in range(6):
                phases = any_phases(die, layout.bits, 5)
                self.judge(layout, machine, word, phases, state, seen)
            for phases in plans_by_trying(layout, let_by_trying(layout, machine, word, state), word, state, 1):
                self.judge(layout, machine, word, [list(phase)[::-1] for phase in phases], state, seen)
        self.assertGreater(min(seen.values()), 50)

    def judge(self, layout, machine, word, phases, state, seen):
        told = judged_plan(layout=layout, machine=machine, word=word, phases=phases, state=state)
        self.same((told.word, *told.parts), told_by_cuts(layout, machine, word, phases, state))
        self.assertIs(type(told), {"safe": Safe, "torn": Torn, "short": Short}[told.word])
        self.same(bool(told), told.word == "safe")
        again = tuple(tuple(phase) for phase in phases)
        self.same(judged_plan(layout, machine, word, again, state) == told, True)
        seen[told.word] += 1

    def test_wherever_the_plug_is_pulled(self):
        for layout, machine, word, state in some_changes(153, 120):
            plan = least_plan(layout, machine, word, state)
            self.same(judged_plan(layout, machine, word, plan, state).words, cut_words(word, plan))
            for many, phase in enumerate(plan):
                for lot in lots(range(len(phase))):
                    there = landed(word, plan, many, lot)
                    self.assertIn(there, kept_of(layout, machine))
                    self.assertIn(layout.means[there], (layout.means[word], state))
                    for new in machine.leads(layout.means[there]):
                        self.same(bool(judged_plan(layout, machine, there, least_plan(layout, machine, there, new), new)),
                                  True)

    def test_roads_are_plans(self):
        for layout, machine, word, state in some_changes(154, 150, bits=5):
            phases = [[bit] for bit in road(layout, machine, word, state)]
            told = judged_plan(layout, machine, word, phases, state)
            self.assertIs(type(told), Safe)

    def test_torn_in_the_first_lot_and_in_the_last_one(self):
        all_four = any_to_any(4)
        self.same(judged_plan(FOUR, all_four, 0, [[0, 1]], 2).parts, (0, (1,)))
        self.same(judged_plan(FOUR, all_four, 0, [[1]], 2).parts, (0, (0,)))
        self.same(judged_plan(FOUR, all_four, 0, [[2, 1]], 3).parts, (0, (1,)))
        self.same(judged_plan(FOUR, all_four, 0, [[0], [0], [2, 1, 0]], 1).parts, (2, (1,)))
        # All but the whole phase is let.
        machine = Machine(2, [(0, 1)])
        held = Layout(4, [0, 0, 0, 0, 0, 0, 0, None] + [1] * 8)
        self.same(judged_plan(held, machine, 0, [[2, 0, 1]], 1).parts, (0, (0, 1, 2)))
        self.same(judged_plan(held, machine, 0, [[0, 1], [2]], 1).parts, (1, (0,)))
        self.same(judged_plan(held, machine, 0, [[0, 1], [0, 3]], 1).words, (0, 1, 2, 3, 10, 11))

    def test_short(self):
        all_four = any_to_any(4)
        self.same(judged_plan(FOUR, all_four, 0, [], 2).parts, (0,))
        self.same(judged_plan(FOUR, all_four, 5, (), 1).parts, (5,))
        self.same(judged_plan(FOUR, all_four, 0, [[0]], 2).parts, (1,))
        self.same(judged_plan(FOUR, all_four, 0, [[0], [1], [1]], 2).parts, (1,))

    def test_a_plan_that_goes_back(self):
        all_four = any_to_any(4)
        told = judged_plan(FOUR, all_four, 0, [[0], [1], [1], [0], [0], [1]], 2)
        self.same(told.parts, ((0, 1, 3),))
        self.same(judged_plan(FOUR, all_four, 7, [[2, 1], [1], [1]], 0).words, (1, 3, 5, 7))

    def test_two_hundred_flips(self):
        with self.in_short():
            for phases in ([list(range(8))] * 25, [list(range(7)), [7]] * 25, [[at % 8] for at in range(200)]):
                told = judged_plan(WIDE, TWO, 0, phases, 1)
                self.same((told.word, *told.parts), told_by_cuts(WIDE, TWO, 0, phases, 1))

    def test_papers(self):
        for safe in (Safe([1, [2]]), Safe(words=(1, (2,)))):
            self.same((safe.word, safe.words, safe.parts, bool(safe)), ("safe", (1, (2,)), ((1, (2,)),), True))
        for torn in (Torn(1, [0, 2]), Torn(lot=(0, 2), phase=1)):
            self.same((torn.word, torn.phase, torn.lot, torn.parts), ("torn", 1, (0, 2), (1, (0, 2))))
            self.same(bool(torn), False)
        for short in (Short([5]), Short(lies=(5,))):
            self.same((short.word, short.lies, short.parts, bool(short)), ("short", (5,), ((5,),), False))
        self.assertEqual([kind.__bases__ for kind in (Safe, Torn, Short)], [(Paper,), (Denial,), (Denial,)])
        self.same(Safe([1]) == Safe((1,)), True)
        self.same(Torn(0, [1]) == Torn(0, (1,)), True)
        self.same(Short(0) == Short(0), True)
        for one, other in ((Safe([1]), Safe([2])), (Torn(0, [1]), Torn(1, [1])), (Torn(0, [1]), Torn(0, [2])),
                           (Short(0), Short(1)), (Short(0), Safe(0)), (Torn(0, [1]), Denial("torn", 0, [1])),
                           (Safe([1]), Paper("safe", [1])), (Short(0), False), (Short(0), 0)):
            self.same(one == other, False)
            self.same(other == one, False)


class Least(Case):
    def test_small_layouts(self):
        lengths = {}
        for layout, machine, word, state in some_changes(155, 250):
            let = let_by_trying(layout, machine, word, state)
            phases = 1
            while not (plans := plans_by_trying(layout, let, word, state, phases)):
                phases += 1
                if phases > 3:
                    break
            told = least_plan(layout=layout, machine=machine, word=word, state=state)
            lengths[len(told)] = lengths.get(len(told), 0) + 1
            if plans:
                wanted = min(plans, key=lambda plan: (sum(len(phase) for phase in plan), plan))
                self.same(told, wanted)
            else:
                self.assertGreater(len(told), 3)
        self.assertGreater(min(lengths.get(many, 0) for many in (1, 2, 3)), 5)

    def test_words_behind_all_phases_but_the_last_mean_the_old_state(self):
        for layout, machine, word, state in some_changes(156, 60, bits=6, states=5):
            plan = least_plan(layout, machine, word, state)
            meant = [layout.means[landed(word, plan, many, [])] for many in range(len(plan) + 1)]
            self.same(meant, [layout.means[word]] * len(plan) + [state])

    def test_greater_layouts(self):
        for seed, bits in ((157, 5), (158, 6)):
            for layout, machine, word, state in some_changes(seed, 40, bits=bits, states=4):
                with self.in_short():
                    told = least_plan(layout, machine, word, state)
                self.same(told, self.by_rounds(layout, machine, word, state))

    def by_rounds(self, layout, machine, word, state):
        """The least of all ways to each word, by (phases, flips, plan), until a round betters none."""
        let = set(let_by_trying(layout, machine, word, state))
        steps = {here: [phase for phase in lots(range(layout.bits))
                        if phase and all(with_flips(here, lot) in let for lot in lots(phase))] for here in let}
        best = {word: (0, 0, ())}
        betters = True
        while betters:
            betters = False
            for here in list(best):
                for phase in steps[here]:
                    there = with_flips(here, phase)
                    phases, flips, plan = best[here]
                    told = (phases + 1, flips + len(phase), plan + (phase,))
                    if there not in best or told < best[there]:
                        best[there], betters = told, True
        return min(best[here] for here in best if layout.means[here] == state)[2]

    def test_long_ways(self):
        # A row of words that are neighbours of the next ones alone: no two flips of it can be one phase.
        way = [0]
        while ahead := [way[-1] ^ 2 ** bit for bit in range(6)
                        if not any(flips_apart(way[-1] ^ 2 ** bit, here) < 2 for here in way[:-1])]:
            way.append(ahead[0])
        means = [None] * 64
        for here in way:
            means[here] = 0 if here != way[-1] else 1
        layout, machine = Layout(6, means), Machine(2, [(0, 1)])
        with self.in_short():
            told = least_plan(layout, machine, 0, 1)
        self.same(told, self.by_rounds(layout, machine, 0, 1))
        self.same(told, tuple((bit,) for bit in road(layout, machine, 0, 1)))
        self.same(len(told), len(way) - 1)
        self.assertGreater(len(told), 10)

    def test_fewer_flips_and_the_least(self):
        square = Layout(2, [0, 0, 0, 1])
        self.same(least_plan(square, TWO, 0, 1), ((0, 1),))
        corner = Layout(3, [0, 0, 0, 1, 0, 1, 1, 1])
        self.same(least_plan(corner, TWO, 0, 1), ((0, 1),))
        self.same(least_plan(corner, TWO, 7, 0), ((0, 1),))
        self.same(least_plan(Layout(3, [0, 1, 1, 1, 1, 1, 1, 1]), TWO, 7, 0), ((0, 1, 2),))
        self.same(least_plan(Layout(3, [0, 1, 1, 1, 1, 1, 1, 1]), TWO, 0, 1), ((0,),))

        # Here the phases that are found last, ((0, 1), (2,)), are the least ones.
        self.same(least_plan(Layout(3, [0, 0, 0, 0, None, None, 0, 1]), TWO_ON, 0, 1), ((0, 1), (2,)))

    def test_layouts_in_which_most_words_mean_the_old_state(self):
        die = dice(159)
        lengths = {}
        for _ in range(120):
            bits = die.randrange(3, 6)
            means = [die.choice((0, 0, 0, 0, 0, None)) for _ in range(2 ** bits)]
            means[0], means[die.randrange(2 ** (bits - 1), 2 ** bits)] = 0, 1
            layout = Layout(bits, means)
            if 0 in kept_of(layout, TWO_ON):
                told = least_plan(layout, TWO_ON, 0, 1)
                lengths[len(told)] = lengths.get(len(told), 0) + 1
                self.same(told, self.by_rounds(layout, TWO_ON, 0, 1))
        self.assertGreater(min(lengths.get(many, 0) for many in (1, 2, 3)), 5)

    def test_bits_at_the_edge(self):
        six = Layout(6, [0] * 63 + [1])
        with self.in_short():
            self.same(least_plan(six, TWO, 0, 1), ((0, 1, 2, 3, 4, 5),))
        code = listed(Code(2, 3))
        self.same(code.bits, 7)
        self.fails(TooMany("bits", 6), least_plan, code, any_to_any(16), 0, 1)
        self.fails(TooMany("bits", 6), least_plan, WIDE, TWO, 0, 1)
        self.fails(Misfit("word"), least_plan, WIDE, Machine(3, [(0, 1), (0, 2)]), 0, 1)
        self.fails(Misfit("state"), least_plan, WIDE, TWO, 0, 0)
        self.fails(Misfit("layout"), least_plan, WIDE, Machine(1, []), 0, 0)


class Errors(Case):
    def calls(self):
        """Each function with what is passed behind the word, the state last."""
        return ((let_phases, ()), (least_plan, ()), (judged_plan, ([],)))

    def test_layouts_and_machines(self):
        for call, phases in self.calls():
            for value in NO_LAYOUTS:
                self.fails(BadLayout("layout"), call, value, None, None, *phases, None)
            for value in NO_MACHINES:
                self.fails(BadMachine("machine"), call, FOUR, value, None, *phases, None)

    def test_words_and_states(self):
        for call, phases in self.calls():
            for word in NO_INTEGERS + (-1, 8, 2 ** 70):
                self.fails(BadWord("word"), call, FOUR, any_to_any(4), word, *phases, None)
                self.fails(BadWord("word"), call, FOUR, ring(3), word, *phases, 0)
            for state in NO_INTEGERS + (-1, 3, 4, 63, 2 ** 70):
                self.fails(BadNumber("state"), call, FOUR, ring(3), 0, *phases, state)
                self.fails(BadNumber("state"), call, LANE, ring(3), 3, *phases, state)

    def test_phases(self):
        for phases in BAD_PHASES:
            self.fails(BadPhases("phases"), judged_plan, FOUR, any_to_any(4), 0, phases, 2)
            self.fails(BadPhases("phases"), judged_plan, FOUR, ring(3), 0, phases, None)
            self.fails(BadWord("word"), judged_plan, FOUR, ring(3), 8, phases, None)

    def test_misfits(self):
        for call, phases in self.calls():
            self.fails(Misfit("layout"), call, FOUR, ring(3), 0, *phases, 0)
            self.fails(Misfit("layout"), call, Layout(1, [None, 1]), Machine(1, []), 0, *phases, 0)
            for word in (0, 1, 2, 3):
                self.fails(Misfit("word"), call, LANE, ONE_WAY, word, *phases, 2)
                self.fails(Misfit("word"), call, LANE, ONE_WAY, word, *phases, 0)
            for state in (0, 2):
                self.fails(Misfit("state"), call, FOUR, ring(4), 0, *phases, state)
            self.fails(Misfit("state"), call, LANE, Machine(2, [(0, 1)]), 1, *phases, 0)

    def test_phases_that_do_not_fit(self):
        for phases in ([[3]], [[0], [1, 3]], ([2], (20000, 0), [3])):
            self.fails(Misfit("phases"), judged_plan, FOUR, any_to_any(4), 0, phases, 2)
            self.fails(Misfit("phases"), judged_plan, FOUR, ring(4), 0, phases, 2)
            self.fails(Misfit("layout"), judged_plan, FOUR, ring(3), 0, phases, 2)
            self.fails(Misfit("word"), judged_plan, LANE, ONE_WAY, 0, phases, 2)
        self.same(judged_plan(FOUR, any_to_any(4), 0, [[2]], 1).words, (0, 4))

    def test_what_is_passed_stays(self):
        phases = [[2, 1], [0]]
        told = judged_plan(FOUR, any_to_any(4), 7, phases, 0)
        self.same(phases, [[2, 1], [0]])
        phases[0].append(0)
        self.same(told.parts, ((0, 1, 3, 5, 7),))


if __name__ == "__main__":
    unittest.main()
