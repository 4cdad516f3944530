import unittest

from oneflip.check_plans import shows_plan
from oneflip.errors import BadLayout, BadMachine, BadNumber, BadPhases, BadWord, Misfit
from oneflip.layouts import Layout
from oneflip.machines import Machine, any_to_any, ring
from oneflip.papers import Denial, Paper
from oneflip.plans import Safe, Short, Torn, judged_plan, least_plan
from tests.reckon import let_by_trying, lots, with_flips
from tests.test_plans import FOUR, ONE_WAY, WIDE, any_phases, some_changes, told_by_cuts
from tests.tools import BAD_PHASES, NO_INTEGERS, NO_LAYOUTS, NO_MACHINES, Case, Odd, dice

ALL_FOUR = any_to_any(4)
NO_PAPERS = (None, True, False, 0, "safe", (), [0, 1, 3], (0, ()), {}, Odd(), Safe, Torn, Short, object(),
             Paper("safe", [0, 1, 3]), Paper("torn", 0, []), Denial("torn", 0, [1]), Denial("short", 3), Denial("safe"),
             Machine(2, []), FOUR)


def torn_lots(let, word, phases):
    """All right pairs of a phase and a lot, by making each cut."""
    here, right = word, []
    for number, phase in enumerate(phases):
        flips = sorted(phase)
        right += [(number, lot) for lot in lots(range(len(flips)))
                  if with_flips(here, [flips[at] for at in lot]) not in let]
        here = with_flips(here, flips)
    return right, here


class Shown(Case):
    def test_small_layouts(self):
        die = dice(211)
        seen = {"safe": 0, "torn": 0, "short": 0}
        for layout, machine, word, state in some_changes(211, 30):
            plan = list(least_plan(layout, machine, word, state))
            told = [any_phases(die, layout.bits, 4) for _ in range(3)]
            for phases in told + [plan, plan[:-1], plan + [[0]], plan + [[0], [0]], []]:
                self.hold(layout, machine, word, phases, state, seen)
        self.assertGreater(min(seen.values()), 20)

    def hold(self, layout, machine, word, phases, state, seen):
        let = let_by_trying(layout, machine, word, state)
        right, behind = torn_lots(let, word, phases)
        told = (layout, machine, word, phases, state)
        judged = told_by_cuts(*told)
        self.same(shows_plan(*told, judged_plan(*told)), True)
        seen[judged[0]] += 1
        lie = judged[1] if judged[0] == "safe" else (word, behind)
        self.same(shows_plan(*told, Safe(lie)), judged[0] == "safe")
        self.same(shows_plan(*told, Safe(lie[:-1])), False)
        self.same(shows_plan(*told, Safe(lie + (2 ** layout.bits,))), False)
        for number in range(-1, len(phases) + 1):
            flips = len(phases[number]) if 0 <= number < len(phases) else 2
            for lot in lots(range(flips + 1)):
                self.same(shows_plan(*told, Torn(number, lot)), (number, lot) in right)
                if len(lot) > 1:
                    self.same(shows_plan(*told, Torn(number, lot[::-1])), False)
        for lies in range(2 ** layout.bits):
            wanted = lies == behind and layout.means[behind] != state
            self.same(shows_plan(value=Short(lies), state=state, phases=phases, word=word, machine=machine,
                                 layout=layout), wanted)

    def test_which_torn_lots(self):
        # Any phase, any lot: not the first ones alone.
        phases = [[0, 1], [2]]
        for phase, lot, wanted in ((0, (), False), (0, (0,), False), (0, (1,), False), (0, (0, 1), True), (1, (), True),
                                   (1, (0,), True), (0, (1, 0), False), (0, (1, 1), False), (0, (2,), False),
                                   (1, (1,), False), (2, (), False), (-1, (), False), (-2, (1,), False)):
            self.same(shows_plan(FOUR, ALL_FOUR, 0, phases, 3, Torn(phase, lot)), wanted)
            self.same(shows_plan(FOUR, ALL_FOUR, 0, ((1, 0), (2,)), 3, Torn(phase, list(lot))), wanted)

    def test_short_where_a_phase_is_torn(self):
        self.same(shows_plan(FOUR, ALL_FOUR, 0, [[0, 1], [2]], 3, Short(7)), True)
        self.same(shows_plan(FOUR, ALL_FOUR, 0, [[0, 1], [2]], 3, Short(0)), False)
        self.same(shows_plan(FOUR, ALL_FOUR, 0, [[0, 1]], 2, Short(3)), False)
        self.same(shows_plan(FOUR, ALL_FOUR, 0, [], 2, Short(0)), True)
        self.same(shows_plan(FOUR, ALL_FOUR, 0, [[0], [0]], 2, Short(0)), True)
        # Torn in its last phase, though what lies behind all of it means the new state.
        self.same(shows_plan(FOUR, ALL_FOUR, 0, [[0, 1]], 2, Safe([0, 1, 2, 3])), False)
        self.same(shows_plan(FOUR, ALL_FOUR, 0, [[0, 1]], 2, Torn(0, [1])), True)

    def test_parts_of_wrong_kinds(self):
        safe = (FOUR, ALL_FOUR, 0, [[0], [1]], 2)
        for words in (None, 0, "013", {0, 1, 3}, [0, 1, 3.0], [0, True, 3], [False, 1, 3], [0, "1", 3], [0, 3, 1],
                      [0, 1, 1, 3], [[0], 1, 3], [0, 1, 3, None], [0, 1, 3, 4], [1, 3], [], Odd(), [Odd(), Odd(), Odd()],
                      Safe([0, 1, 3]), range(3)):
            self.same(shows_plan(*safe, Safe(words)), False)
        self.same(shows_plan(*safe, Safe([0, 1, 3])), True)
        torn = (FOUR, ALL_FOUR, 0, [[1], [0, 1]], 1)
        self.same(shows_plan(*torn, Torn(1, [1])), False)
        self.same(shows_plan(*torn, Torn(1, [0])), True)
        self.same(shows_plan(*torn, Torn(1, [])), True)
        for phase in (None, True, 1.0, "1", [1], Odd(), 2 ** 70, (), -1):
            self.same(shows_plan(*torn, Torn(phase, [0])), False)
        for lot in (None, 0, False, "0", "", {0}, [False], [0.0], ["0"], [[0]], Odd(), [Odd()], [0, 0], [0, None],
                    [-1], [-2], [2], [2 ** 70], range(1), Torn(1, [0])):
            self.same(shows_plan(*torn, Torn(1, lot)), False)
        for phase in (0, False, 0.0):
            self.same(shows_plan(FOUR, ALL_FOUR, 0, [[0, 1]], 2, Torn(phase, [1])), type(phase) is int)
        short = (FOUR, ALL_FOUR, 0, [[0]], 2)
        for lies in (None, True, 1.0, "1", [1], (1,), Odd(), {1}, 0, 2, -1, 2 ** 70, Short(1)):
            self.same(shows_plan(*short, Short(lies)), False)
        self.same(shows_plan(*short, Short(1)), True)

    def test_values_that_are_no_such_papers(self):
        for value in NO_PAPERS:
            for phases in ([[0], [1]], [[0, 1]], [], [[0]]):
                self.same(shows_plan(FOUR, ALL_FOUR, 0, phases, 2, value), False)

    def test_a_long_plan(self):
        phases = [[bit % 8] for bit in range(200)]
        many = [[0, 1, 2, 3, 4, 5, 6, 7]] * 25
        with self.in_short():
            self.same(shows_plan(WIDE, any_to_any(2), 0, many, 1, Safe(list(range(255)))), False)
            self.same(shows_plan(WIDE, any_to_any(2), 0, many, 1, Safe(list(range(256)))), True)
            self.same(shows_plan(WIDE, any_to_any(2), 0, phases, 1, judged_plan(WIDE, any_to_any(2), 0, phases, 1)), True)
            self.same(shows_plan(WIDE, any_to_any(2), 0, phases, 1, Short(255)), False)
            self.same(shows_plan(WIDE, any_to_any(2), 0, phases, 1, Torn(199, [0])), False)


class Errors(Case):
    def test_fails_whatever_the_value_is(self):
        plain = [FOUR, ring(4), 0, [[0]], 1]
        for value in (None, Safe([0, 1]), Torn(0, []), Short(0), Odd()):
            for at, wanted, wrong in ((0, BadLayout("layout"), NO_LAYOUTS), (1, BadMachine("machine"), NO_MACHINES),
                                      (2, BadWord("word"), NO_INTEGERS + (-1, 8, 2 ** 70)),
                                      (3, BadPhases("phases"), BAD_PHASES),
                                      (4, BadNumber("state"), NO_INTEGERS + (-1, 4, 2 ** 70))):
                for bad in wrong:
                    self.fails(wanted, shows_plan, *plain[:at], bad, *plain[at + 1:], value)
                    self.fails(wanted, shows_plan, *plain[:at], bad, *[None] * (4 - at), value)

    def test_misfits_in_their_order(self):
        for value in (None, Short(0)):
            self.fails(Misfit("layout"), shows_plan, FOUR, ring(3), 0, [[3]], 0, value)
            self.fails(Misfit("word"), shows_plan, Layout(2, [0, None, 2, 1]), ONE_WAY, 1, [[2]], 0, value)
            self.fails(Misfit("phases"), shows_plan, FOUR, ring(4), 0, [[0], [3]], 2, value)
            self.fails(Misfit("state"), shows_plan, FOUR, ring(4), 0, [[0]], 2, value)
            self.fails(Misfit("state"), shows_plan, FOUR, ring(4), 0, [], 0, value)


if __name__ == "__main__":
    unittest.main()
