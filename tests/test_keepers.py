import unittest

from oneflip.codes import Code
from oneflip.doubles import listed
from oneflip.errors import BadLayout, BadMachine, BadNumber, BadWord, Misfit
from oneflip.fits import fitted, longest_road
from oneflip.keepers import Keeper
from oneflip.kept import kept_of
from oneflip.layouts import Layout
from oneflip.machines import Machine, any_to_any, hub, line, ring
from oneflip.rings import ring_layout
from tests.reckon import road_by_trying, with_flips
from tests.test_plans import some_changes
from tests.tools import NO_INTEGERS, NO_LAYOUTS, NO_MACHINES, Case, any_machine, dice


def told_of(keeper):
    """All that a Keeper tells of itself."""
    return (str(keeper.layout), str(keeper.machine), keeper.lies, keeper.meant, keeper.flips, keeper.cuts, keeper.asked)


def any_asks(die, machine, state, many):
    """States that can be asked for, one behind another."""
    asks = []
    for _ in range(many):
        leads = machine.leads(state)
        if not leads:
            break
        state = die.choice(leads)
        asks.append(state)
    return asks


class Made(Case):
    def test_begin(self):
        for layout, machine, word, _ in some_changes(281, 60):
            keeper = Keeper(word=word, machine=machine, layout=layout)
            self.same(told_of(keeper), (str(layout), str(machine), word, layout.means[word], 0, 0, ()))
            self.same((keeper.layout == layout, keeper.machine == machine), (True, True))

    def test_fails(self):
        for value in NO_LAYOUTS:
            self.fails(BadLayout("layout"), Keeper, value, None, None)
            self.fails(BadLayout("layout"), Keeper, value, ring(4), 0)
        layout = Layout(2, [0, 1, 2, 3])
        for value in NO_MACHINES:
            self.fails(BadMachine("machine"), Keeper, layout, value, None)
            self.fails(BadMachine("machine"), Keeper, layout, value, 0)
        for word in NO_INTEGERS + (-1, 4, 2 ** 70):
            self.fails(BadWord("word"), Keeper, layout, ring(3), word)
            self.fails(BadWord("word"), Keeper, layout, ring(4), word)
        self.fails(Misfit("layout"), Keeper, layout, ring(3), 0)
        self.fails(Misfit("layout"), Keeper, layout, ring(3), 3)
        for word in range(4):
            self.fails(Misfit("word"), Keeper, layout, ring(4), word)
        self.fails(Misfit("word"), Keeper, Layout(2, [0, None, 1, 0]), any_to_any(2), 1)
        self.same(Keeper(Layout(2, [0, None, 1, 0]), any_to_any(2), 3).meant, 0)

    def test_a_layout_need_not_stand(self):
        # State 2 has no word, and the word 3 is not kept; the keeper lives on between 0 and 1.
        keeper = Keeper(Layout(2, [0, 1, None, 3]), Machine(4, [(0, 1), (1, 0), (3, 2)]), 0)
        self.same((keeper.ask(1), keeper.ask(0), keeper.lies), (1, 1, 0))
        self.fails(Misfit("word"), Keeper, keeper.layout, keeper.machine, 3)

    def test_methods_are_its_own(self):
        for name in ("__init__", "__eq__", "ask", "ask_cut", "copy"):
            self.assertIn(name, vars(Keeper))


class Asked(Case):
    def test_roads(self):
        for layout, machine, word, state in some_changes(282, 80):
            way = road_by_trying(layout, machine, word, state)
            keeper = Keeper(layout, machine, word)
            self.same(keeper.ask(state=state), len(way))
            self.same(told_of(keeper)[2:], (with_flips(word, way), state, len(way), 0, (state,)))
            for many in range(len(way) + 1):
                keeper = Keeper(layout, machine, word)
                there = with_flips(word, way[:many])
                self.same(keeper.ask_cut(many=many, state=state), layout.means[there])
                self.same(told_of(keeper)[2:], (there, layout.means[there], many, 1, (state,)))
                self.same(layout.means[there], state if many == len(way) else layout.means[word])
                self.assertIn(there, kept_of(layout, machine))

    def test_one_ask_behind_another(self):
        die = dice(283)
        for layout, machine, word, _ in some_changes(283, 60):
            keeper = Keeper(layout, machine, word)
            flips = 0
            asks = any_asks(die, machine, layout.means[word], 12)
            for at, state in enumerate(asks):
                way = road_by_trying(layout, machine, word, state)
                word, flips = with_flips(word, way), flips + len(way)
                self.same(keeper.ask(state), len(way))
                self.same(told_of(keeper)[2:], (word, state, flips, 0, tuple(asks[:at + 1])))

    def test_cut_and_asked_again(self):
        # As many flips, and the same word, however often the plug is pulled.
        die = dice(284)
        seen = 0
        for states in range(2, 10):
            for machine in (ring(states), hub(states), line(states), any_to_any(states), any_machine(die, states, 5)):
                layout = fitted(machine)
                kept = kept_of(layout, machine)
                for word in die.sample(kept, min(6, len(kept))):
                    for state in machine.leads(layout.means[word]):
                        seen += self.cut_often(die, layout, machine, word, state)
        self.assertGreater(seen, 200)

    def cut_often(self, die, layout, machine, word, state):
        """Asks for a state again and again, the plug being pulled; returns how often."""
        whole, often = Keeper(layout, machine, word), Keeper(layout, machine, word)
        many = whole.ask(state)
        while often.flips + 1 < many:
            self.same(often.ask_cut(state, die.randrange(many - often.flips)), layout.means[word])
        left = many - often.flips
        self.same(often.ask(state), left)
        self.same((often.lies, often.meant, often.flips), (whole.lies, whole.meant, whole.flips))
        self.same(often.asked, (state,) * (often.cuts + 1))
        return often.cuts

    def test_behind_none_all_but_one_and_all(self):
        layout, machine = listed(Code(3, 1)), any_to_any(6)
        longest = longest_road(layout, machine)
        seen = 0
        for word in range(16):
            for state in machine.leads(layout.means[word]):
                way = road_by_trying(layout, machine, word, state)
                seen += len(way) == longest
                for many, meant in ((0, layout.means[word]), (len(way) - 1, layout.means[word]), (len(way), state)):
                    keeper = Keeper(layout, machine, word)
                    self.same(keeper.ask_cut(state, many), meant)
                    self.same((keeper.lies, keeper.flips, keeper.cuts), (with_flips(word, way[:many]), many, 1))
                keeper = Keeper(layout, machine, word)
                self.fails(BadNumber("many"), keeper.ask_cut, state, len(way) + 1)
                self.same(told_of(keeper), told_of(Keeper(layout, machine, word)))
        self.assertGreater(seen, 0)

    def test_a_winding_road(self):
        # The road flips some bits more than once.
        means = [None] * 32
        for word in (0, 1, 3, 7, 6, 14, 10):
            means[word] = 0
        means[26] = 1
        keeper = Keeper(Layout(5, means), Machine(2, [(0, 1)]), 0)
        self.same((keeper.ask_cut(1, 4), keeper.lies, keeper.ask_cut(1, 2), keeper.lies), (0, 6, 0, 10))
        self.same((keeper.ask(1), keeper.lies, keeper.meant, keeper.flips), (1, 26, 1, 7))
        self.same(Keeper(Layout(5, means), Machine(2, [(0, 1)]), 0).ask(1), 7)

    def test_very_many_asks(self):
        keeper = Keeper(listed(Code(3, 3)), any_to_any(24), 0)
        with self.in_short(10):
            for at in range(1000):
                keeper.ask((keeper.meant + 1 + at % 23) % 24)
        self.same(len(keeper.asked), 1000)


class Equal(Case):
    def test_copies(self):
        for layout, machine, word, state in some_changes(285, 60):
            keeper = Keeper(layout, machine, word)
            keeper.ask_cut(state, 0)
            if len(road_by_trying(layout, machine, word, state)) > 1:
                keeper.ask_cut(state, 1)
            other = keeper.copy()
            self.same((keeper == other, keeper != other, other is keeper), (True, False, False))
            self.same(told_of(other), told_of(keeper))
            before = told_of(keeper)
            other.ask(state)
            self.same(told_of(keeper), before)
            self.same(keeper == other, False)
            keeper.ask(state)
            self.same((keeper == other, told_of(keeper) == told_of(other)), (True, True))

    def test_each_attribute(self):
        def made(layout=ring_layout(6), machine=ring(6), word=0, asks=(), cuts=()):
            keeper = Keeper(layout, machine, word)
            for state in asks:
                keeper.ask(state)
            for state, many in cuts:
                keeper.ask_cut(state, many)
            return keeper

        self.same(made() == made(), True)
        for other in (made(word=1), made(machine=line(6)), made(asks=(1,)), made(cuts=((1, 0),)), made(cuts=((5, 0),)),
                      made(word=3), made(layout=Layout(4, list(ring_layout(6).means) * 2)), None, "0", 0, (0,), Keeper):
            self.same(made() == other, False)
            self.same(made() != other, True)
        self.same(made(cuts=((1, 0),)) == made(cuts=((5, 0),)), False)
        self.same(made(cuts=((1, 0), (5, 0))) == made(cuts=((5, 0), (1, 0))), False)
        self.same(made(cuts=((1, 0), (5, 0))) == made(cuts=((1, 0), (5, 0))), True)
        self.same(made(word=1, asks=(1,)) == made(word=1, cuts=((1, 1),)), False)
        # From 0 and from 1 the same word is reached, by unlike numbers of flips.
        self.same(made(asks=(1,)).lies, made(word=1, asks=(1,)).lies)
        self.same(made(asks=(1,)) == made(word=1, asks=(1,)), False)


class Errors(Case):
    def test_states(self):
        keeper = Keeper(ring_layout(6), ring(6), 0)
        keeper.ask(1)
        keeper.ask_cut(0, 0)
        before = told_of(keeper)
        for state in NO_INTEGERS + (-1, 6, 7, 63, 2 ** 70):
            self.fails(BadNumber("state"), keeper.ask, state)
            for many in (0, None, 99):
                self.fails(BadNumber("state"), keeper.ask_cut, state, many)
        for state in (1, 3, 4, 5):
            self.fails(Misfit("state"), keeper.ask, state)
            for many in (0, None, 99):
                self.fails(Misfit("state"), keeper.ask_cut, state, many)
        for state, most in ((0, 1), (2, 1)):
            for many in NO_INTEGERS + (-1, most + 1, most + 2, 2 ** 70):
                self.fails(BadNumber("many"), keeper.ask_cut, state, many)
        self.same(told_of(keeper), before)


if __name__ == "__main__":
    unittest.main()
