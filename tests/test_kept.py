import unittest
from itertools import product

from oneflip.check_kept import shows_layout
from oneflip.errors import BadLayout, BadMachine, BadNumber, BadWord, Misfit
from oneflip.kept import Falls, Stands, judged_layout, kept_of, next_ask, rank_of, road, stands_for
from oneflip.layouts import Layout, pieces_of, touched_by
from oneflip.machines import Machine, any_to_any, hub, line, ring
from oneflip.papers import Denial, Paper, fixed
from oneflip.words import gray
from tests.reckon import is_falls, kept_by_worth, ranks_by_worth, road_by_trying
from tests.tools import NO_INTEGERS, NO_LAYOUTS, NO_MACHINES, Case, any_layout, any_machine, dice

FOUR = Layout(3, [0, 0, 3, 2, 1, 2, 1, 2])
LANE = Layout(2, [0, 1, None, None])
ONE_WAY = Machine(3, [(0, 1), (1, 2)])


def some_pairs(seed, many, bits=5, states=6):
    """Pairs of a layout and a machine that has all states that the layout means."""
    die = dice(seed)
    for _ in range(many):
        count = die.randrange(1, states + 1)
        layout = any_layout(die, die.randrange(1, bits), count, die.randrange(3))
        yield layout, any_machine(die, count + (die.randrange(4) == 0))


def chain(many):
    """A layout of six bits in Gray's order, and a machine, in which each piece hangs on the next one."""
    means = [None] * 64
    for at in range(many):
        means[gray(at)] = at
    return Layout(6, means), Machine(many + 1, [(at, at + 1) for at in range(many)])


class Kept(Case):
    def test_small_layouts(self):
        for layout, machine in some_pairs(21, 300):
            wanted = kept_by_worth(layout, machine)
            self.same(kept_of(layout=layout, machine=machine), wanted)
            meant = [word for word, state in enumerate(layout.means) if state is not None]
            self.same(stands_for(layout=layout, machine=machine),
                      list(wanted) == meant and set(range(machine.states)) == set(layout.means) - {None})

    def test_all_of_one_and_of_two_bits(self):
        changes = [(0, 1), (1, 0), (1, 2), (2, 0)]
        for chosen in product((False, True), repeat=4):
            machine = Machine(3, [change for change, there in zip(changes, chosen) if there])
            for bits in (1, 2):
                for means in product((None, 0, 1, 2), repeat=2 ** bits):
                    layout = Layout(bits, means)
                    self.same(kept_of(layout, machine), kept_by_worth(layout, machine))

    def test_with_fewer_changes_no_fewer_words_are_kept(self):
        die = dice(29)
        for layout, machine in some_pairs(29, 100):
            few = Machine(machine.states, [change for change in machine.changes if die.randrange(3)])
            self.assertLessEqual(set(kept_of(layout, machine)), set(kept_of(layout, few)))

    def test_order_of_strikes_makes_no_difference(self):
        die = dice(22)
        for layout, machine in some_pairs(22, 80):
            left = list(pieces_of(layout))
            fails = True
            while fails:
                words = {word for _, lot in left for word in lot}
                fails = [(state, lot) for state, lot in left for new in machine.leads(state)
                         if not words & set(touched_by(layout, lot[0], new))]
                if fails:
                    left.remove(die.choice(fails))
            self.same(kept_of(layout, machine), tuple(sorted(word for _, lot in left for word in lot)))

    def test_edges(self):
        nothing = Layout(2, [None] * 4)
        self.same(kept_of(nothing, ring(2)), ())
        self.same(stands_for(nothing, Machine(1, [])), False)
        self.same(kept_of(Layout(2, [0, None, None, 1]), Machine(2, [])), (0, 3))
        self.same(stands_for(Layout(2, [0, None, None, 1]), Machine(2, [])), True)
        self.same(stands_for(Layout(1, [0, 0]), Machine(1, [])), True)
        self.same(stands_for(Layout(1, [0, 0]), Machine(2, [])), False)
        self.same(stands_for(Layout(1, [0, 1]), any_to_any(2)), True)
        self.same(kept_of(Layout(2, [0, None, None, 1]), any_to_any(2)), ())
        self.same(stands_for(Layout(2, [0, 1, None, 0]), any_to_any(2)), True)
        self.same(stands_for(Layout(2, [0, 0, 0, 1]), Machine(2, [(0, 1)])), True)
        self.same(kept_of(Layout(3, [0, 1, None, None, None, None, None, 0]), any_to_any(2)), (0, 1))
        self.same(stands_for(Layout(3, [0, 1, None, None, None, None, None, 0]), any_to_any(2)), False)

    def test_most_states_in_most_bits(self):
        with self.in_short():
            layout = Layout(8, [word % 64 for word in range(256)])
            self.same(kept_of(layout, any_to_any(64)), ())
            self.same(kept_of(layout, Machine(64, [])), tuple(range(256)))
            self.same(stands_for(layout, Machine(64, [])), True)
            board = Layout(8, [sum(word // 2 ** bit % 2 for bit in range(8)) % 2 for word in range(256)])
            self.same(stands_for(board, ring(2)), True)

    def test_long_chains(self):
        for many in (2, 5, 63):
            layout, machine = chain(many)
            with self.in_short():
                self.same(kept_of(layout, machine), ())
                self.same([rank_of(layout, machine, gray(at)) for at in range(many)], list(range(many, 0, -1)))
                self.same([next_ask(layout, machine, gray(at)) for at in range(many)], list(range(1, many + 1)))
                told = judged_layout(layout, machine)
            self.assertIs(type(told), Falls)
            self.same(told.strikes, tuple((gray(at), at + 1) for at in range(many - 1, -1, -1)))
            self.same(told.lacks, tuple(range(many + 1)))
            self.same(shows_layout(layout, machine, told), True)


class Ranks(Case):
    def test_small_layouts(self):
        for layout, machine in some_pairs(23, 300):
            for word, (rank, ask) in ranks_by_worth(layout, machine).items():
                self.same(rank_of(layout=layout, machine=machine, word=word), rank)
                self.same(next_ask(layout=layout, machine=machine, word=word), ask)

    def test_what_the_ask_tells(self):
        for layout, machine in some_pairs(24, 150):
            for word, state in enumerate(layout.means):
                rank = None if state is None else rank_of(layout, machine, word)
                if rank is not None:
                    ask = next_ask(layout, machine, word)
                    self.assertIn((state, ask), machine.changes)
                    touched = [rank_of(layout, machine, there) for there in touched_by(layout, word, ask)]
                    self.assertTrue(all(other is not None and other < rank for other in touched))
                    self.assertEqual(max(touched, default=0), rank - 1)

    def test_ask_is_the_least(self):
        layout = Layout(3, [0, 1, None, None, 2, None, None, None])
        machine = Machine(4, [(0, 3), (0, 2), (0, 1), (1, 3), (2, 3)])
        self.same([rank_of(layout, machine, word) for word in (0, 1, 4)], [1, 1, 1])
        self.same([next_ask(layout, machine, word) for word in (0, 1, 4)], [3, 3, 3])
        late = Machine(4, [(0, 2), (0, 1), (1, 3), (2, 3)])
        self.same(rank_of(layout, late, 0), 2)
        self.same(next_ask(layout, late, 0), 1)
        later = Machine(4, [(0, 1), (0, 2), (1, 0), (2, 3)])
        self.same([rank_of(layout, later, word) for word in (0, 1, 4)], [2, 3, 1])
        self.same([next_ask(layout, later, word) for word in (0, 1, 4)], [2, 0, 3])


class Roads(Case):
    def test_small_layouts(self):
        told = 0
        for layout, machine in some_pairs(25, 300, bits=4, states=4):
            for word in kept_of(layout, machine):
                for state in machine.leads(layout.means[word]):
                    bits = road(layout=layout, machine=machine, word=word, state=state)
                    if len(bits) < 5:
                        told += 1
                        self.same(bits, road_by_trying(layout, machine, word, state))
        self.assertGreater(told, 200)

    def test_each_change_has_a_road_through_its_piece(self):
        for layout, machine in some_pairs(26, 200):
            kept = kept_of(layout, machine)
            for word in kept:
                for state in machine.leads(layout.means[word]):
                    here = word
                    for bit in road(layout, machine, word, state):
                        self.assertEqual(layout.means[here], layout.means[word])
                        self.assertIn(here, kept)
                        here ^= 2 ** bit
                    self.assertEqual(layout.means[here], state)
                    self.assertIn(here, kept)

    def test_what_is_left_of_a_road_is_the_road(self):
        layout, machine = Layout(4, [0] * 15 + [1]), Machine(2, [(0, 1)])
        self.same(road(layout, machine, 0, 1), (0, 1, 2, 3))
        self.same(road(layout, machine, 5, 1), (1, 3))
        for first, second in (((0, 1, 2, 3), 0), ((1, 2, 3), 1), ((2, 3), 3), ((3,), 7)):
            self.same(road(layout, machine, second, 1), first)

    def test_goes_to_kept_words_only(self):
        # The word 1 means 1, too, but touches no word that means 2, so the road goes further.
        layout = Layout(3, [0, 1, 0, None, None, None, 1, 2])
        machine = Machine(3, [(0, 1), (1, 2)])
        self.same(kept_of(layout, machine), (0, 2, 6, 7))
        self.same(road(layout, machine, 0, 1), (1, 2))
        self.same(road(layout, machine, 2, 1), (2,))
        self.same(road(layout, machine, 6, 2), (0,))

    def test_long_way(self):
        means = [None] * 256
        for at in range(200):
            means[gray(at)] = 0
        means[gray(200)] = 1
        layout = Layout(8, means)
        with self.in_short():
            bits = road(layout, Machine(2, [(0, 1)]), 0, 1)
        here = 0
        for bit in bits:
            self.assertEqual(layout.means[here], 0)
            here ^= 2 ** bit
        self.assertEqual(here, gray(200))


class Judged(Case):
    def test_stands(self):
        for layout, machine in ((FOUR, any_to_any(4)), (FOUR, ring(4)), (Layout(1, [0, 0]), Machine(1, [])),
                                (LANE, Machine(2, [])), (LANE, ring(2))):
            told = judged_layout(layout=layout, machine=machine)
            self.assertIs(type(told), Stands)
            self.same(told.pieces, pieces_of(layout))
            self.same(bool(told), True)
            self.same(shows_layout(layout, machine, told), True)

    def test_falls(self):
        seen = 0
        for layout, machine in some_pairs(27, 300):
            told = judged_layout(layout, machine)
            self.same(bool(told), stands_for(layout, machine))
            self.same(told == judged_layout(layout, machine), True)
            self.same(shows_layout(layout, machine, told), True)
            if isinstance(told, Falls):
                seen += 1
                self.same(is_falls(layout, machine, told.strikes, told.lacks), True)
            else:
                self.same(told.pieces, pieces_of(layout))
        self.assertGreater(seen, 100)

    def test_only_states_that_lack(self):
        told = judged_layout(LANE, Machine(4, [(0, 1), (1, 0)]))
        self.same((told.strikes, told.lacks), ((), (2, 3)))
        told = judged_layout(Layout(1, [None, None]), Machine(2, []))
        self.same((told.strikes, told.lacks), ((), (0, 1)))


class Errors(Case):
    def test_layouts_and_machines(self):
        calls = ((kept_of, ()), (stands_for, ()), (judged_layout, ()), (rank_of, (None,)), (next_ask, (None,)),
                 (road, (None, None)), (shows_layout, (None,)))
        for call, rest in calls:
            for value in NO_LAYOUTS:
                self.fails(BadLayout("layout"), call, value, None, *rest)
            for value in NO_MACHINES:
                self.fails(BadMachine("machine"), call, FOUR, value, *rest)

    def test_words_and_states(self):
        for word in NO_INTEGERS + (-1, 8, 2 ** 70):
            for call in (rank_of, next_ask):
                self.fails(BadWord("word"), call, FOUR, any_to_any(4), word)
                self.fails(BadWord("word"), call, FOUR, ring(3), word)
            self.fails(BadWord("word"), road, FOUR, any_to_any(4), word, None)
            self.fails(BadWord("word"), road, FOUR, ring(3), word, 0)
        for state in NO_INTEGERS + (-1, 3, 4, 63, 2 ** 70):
            self.fails(BadNumber("state"), road, FOUR, ring(3), 0, state)
            self.fails(BadNumber("state"), road, LANE, ring(3), 3, state)

    def test_misfits(self):
        for layout, machine in ((FOUR, ring(3)), (Layout(1, [None, 1]), Machine(1, [])),
                                (Layout(1, [63, 0]), line(63))):
            self.fails(Misfit("layout"), kept_of, layout, machine)
            self.fails(Misfit("layout"), stands_for, layout, machine)
            self.fails(Misfit("layout"), judged_layout, layout, machine)
            self.fails(Misfit("layout"), rank_of, layout, machine, 0)
            self.fails(Misfit("layout"), next_ask, layout, machine, 0)
            self.fails(Misfit("layout"), road, layout, machine, 0, 0)
            self.fails(Misfit("layout"), shows_layout, layout, machine, Stands([]))
            self.fails(Misfit("layout"), shows_layout, layout, machine, None)
        self.same(kept_of(Layout(1, [63, 0]), Machine(64, [(0, 63), (63, 0)])), (0, 1))
        self.same(kept_of(Layout(1, [63, 0]), hub(64)), ())
        self.same(rank_of(Layout(1, [63, 0]), Machine(64, []), 0), None)

    def test_words_that_mean_nothing_or_are_not_kept(self):
        for word in (2, 3):
            self.fails(Misfit("word"), rank_of, LANE, ONE_WAY, word)
            self.fails(Misfit("word"), next_ask, LANE, ONE_WAY, word)
            self.fails(Misfit("word"), road, LANE, ring(2), word, 0)
        for word in (0, 1):
            self.fails(Misfit("word"), road, LANE, ONE_WAY, word, 2)
            self.fails(Misfit("word"), road, LANE, ONE_WAY, word, 0)

    def test_changes_that_are_none(self):
        self.fails(Misfit("state"), road, FOUR, ring(4), 0, 2)
        self.fails(Misfit("state"), road, FOUR, ring(4), 0, 0)
        self.fails(Misfit("state"), road, LANE, Machine(2, [(0, 1)]), 1, 0)


class Shown(Case):
    def test_every_small_falls(self):
        pairs = [(word, state) for word in range(4) for state in range(3)]
        strikes = [()] + [(one,) for one in pairs] + [(one, other) for one in pairs for other in pairs]
        lacks = [(), (0,), (1,), (2,), (0, 1), (0, 2), (1, 2), (1, 0), (0, 1, 2), (1, 1), (3,), (-1,), (0, 3)]
        for layout in (LANE, Layout(2, [0, 1, 1, 2]), Layout(2, [0, 0, 1, None]), Layout(1, [None, 1])):
            for machine in (ONE_WAY, any_to_any(3), Machine(3, [(0, 2), (2, 1)])):
                for struck in strikes:
                    for lack in lacks:
                        self.same(shows_layout(layout, machine, Falls(struck, lack)),
                                  is_falls(layout, machine, struck, lack))

    def test_bent_falls(self):
        die = dice(28)
        right = 0
        for layout, machine in some_pairs(28, 200):
            told = judged_layout(layout, machine)
            if isinstance(told, Stands):
                continue
            for _ in range(12):
                strikes, lacks = list(told.strikes), list(told.lacks)
                for _ in range(die.randrange(3)):
                    bent = die.randrange(6)
                    if bent == 0:
                        die.shuffle(strikes)
                    elif bent == 1 and strikes:
                        strikes.pop(die.randrange(len(strikes)))
                    elif bent == 2 and lacks:
                        lacks.pop(die.randrange(len(lacks)))
                    elif bent == 3 and strikes:
                        at = die.randrange(len(strikes))
                        strikes[at] = (strikes[at][0], die.randrange(machine.states))
                    elif bent == 4:
                        strikes = strikes[:die.randrange(len(strikes) + 1)]
                    else:
                        strikes.append((die.randrange(2 ** layout.bits), die.randrange(machine.states)))
                wanted = is_falls(layout, machine, strikes, lacks)
                right += wanted
                self.same(shows_layout(layout, machine, Falls(strikes, lacks)), wanted)
        self.assertGreater(right, 100)

    def test_stands_must_tell_all_pieces(self):
        pieces = pieces_of(FOUR)
        machine = any_to_any(4)
        lists = [[0, [0, 1]], [3, [2]], [2, [3, 5, 7]], [1, [4, 6]]]
        for told in (pieces, lists, list(pieces), tuple(lists)):
            self.same(shows_layout(layout=FOUR, machine=machine, value=Stands(told)), True)
        for told in (pieces[:3], pieces[1:], pieces + pieces[:1], pieces[::-1], (), None, 4, "pieces", {}, [[]],
                     [[words, state] for state, words in pieces], [(state, words[::-1]) for state, words in pieces],
                     [(state, words, 0) for state, words in pieces], [words for _, words in pieces],
                     [(state, list(words) + [9]) for state, words in pieces], [pieces], dict(pieces),
                     [(str(state), words) for state, words in pieces], [(state, set(words)) for state, words in pieces],
                     [(float(state), words) for state, words in pieces], pieces_of(LANE),
                     [(False if state == 0 else state, words) for state, words in pieces],
                     [(True if state == 1 else state, words) for state, words in pieces],
                     [(state, [word if word > 1 else word == 1 for word in words]) for state, words in pieces]):
            self.same(shows_layout(FOUR, machine, Stands(told)), False, told)

    def test_stands_of_a_layout_that_falls(self):
        self.same(shows_layout(LANE, ONE_WAY, Stands(pieces_of(LANE))), False)
        self.same(shows_layout(LANE, ring(3), Stands(pieces_of(LANE))), False)
        self.same(shows_layout(Layout(1, [None, None]), Machine(1, []), Stands([])), False)

    def test_falls_of_wrong_kinds(self):
        self.same(shows_layout(LANE, ONE_WAY, Falls([[1, 2], [0, 1]], [0, 1, 2])), True)
        self.same(shows_layout(LANE, ONE_WAY, Falls(((1, 2), (0, 1)), (0, 2))), True)
        for strikes in (None, 1, "", "ab", {}, {1: 2}, [1, 2], [(True, 2)], [(1, 2), (False, 1)], [(1, 2), (0, True)],
                        [(1.0, 2)], [(1, 2.0)], [("1", 2)], [(1, None)], [(1,)], [(1, 2, 3)], [()], [None], [((1,), 2)],
                        [[(1, 2)]], (1, 2), [(1, 2), None], [(-1, 2)], [(4, 2)], [(2, 2)], [(1, 3)], [(1, -1)],
                        [{1, 2}], ["12"], [(2 ** 70, 2)], [(1, 2 ** 70)], [(1, 2), (1, 2)]):
            for lacks in ([], [2]):
                self.same(shows_layout(LANE, ONE_WAY, Falls(strikes, lacks)), False, (strikes, lacks))
        for lacks in (None, 2, "", "2", {}, {2: 2}, {2}, [None], ["2"], [2.0], [True], [(2,)], [2, 2], [2, 0], [-1], [3],
                      [2 ** 70], [2, True], [False, 2]):
            for strikes in ([], [(1, 2), (0, 1)]):
                self.same(shows_layout(LANE, ONE_WAY, Falls(strikes, lacks)), False, (strikes, lacks))

    def test_words_that_the_layout_lacks(self):
        layout = Layout(1, [0, 1])
        for word in (-1, -2, 2, 3):
            for state in range(3):
                self.same(shows_layout(layout, ONE_WAY, Falls([(word, state)], [])), False)
                self.same(shows_layout(layout, ONE_WAY, Falls([(1, 2), (word, state)], [2])), False)

    def test_states_and_words_as_truths(self):
        layout, machine = Layout(1, [0, 1]), Machine(3, [(0, 1), (1, 2)])
        self.same(shows_layout(layout, machine, Falls([(1, 2), (0, 1)], [0, 1])), True)
        for strikes, lacks in (([(True, 2), (0, 1)], [0, 1]), ([(1, 2), (False, 1)], [0, 1]),
                               ([(1, 2), (0, True)], [0, 1]), ([(1, 2), (0, 1)], [False, 1]),
                               ([(1, 2), (0, 1)], [0, True])):
            self.same(shows_layout(layout, machine, Falls(strikes, lacks)), False)

    def test_values_that_are_no_such_papers(self):
        pieces = pieces_of(FOUR)
        for value in (None, True, False, 0, "stands", pieces, [pieces], {}, FOUR, any_to_any(4), Stands,
                      Paper("stands", pieces), Denial("stands", pieces), Denial("falls", [], [3]), object()):
            self.same(shows_layout(FOUR, any_to_any(4), value), False)
        for value in (None, True, False, Paper("falls", [], [2]), Denial("falls", [], [2]), Falls, ((), (2,))):
            self.same(shows_layout(LANE, ONE_WAY, value), False)

    def test_what_is_passed_is_copied(self):
        strikes, lacks = [[1, 2]], [2]
        told = Falls(strikes, lacks)
        strikes[0][0] = 0
        lacks.append(7)
        self.same(shows_layout(LANE, ONE_WAY, told), True)
        self.same(fixed([told.strikes, told.lacks]), (((1, 2),), (2,)))


if __name__ == "__main__":
    unittest.main()
