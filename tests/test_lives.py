import unittest

from oneflip.errors import BadBits, BadDeed, BadNumber, BadStore
from oneflip.lives import Life
from oneflip.stores import Store, is_open, values_in, word_for
from tests.reckon import Till, lots, till_plan, with_flips
from tests.test_stores import GREAT, SMALL, any_deed
from tests.tools import BAD_LOTS, NO_INTEGERS, NO_LISTS, NO_STORES, Case, dice


def told_of(life):
    """All that a Life tells of itself."""
    return str(life.store), life.word_now, life.values_now, life.flips, life.cuts


def life_at(store, word):
    """A Life in which some word lies: it is led there by cuts of deeds of its own."""
    life = Life(store, values_in(store, word))
    life.word_now = word
    return life


def any_life(die, sizes):
    store = Store(*sizes)
    return Life(store, [die.randrange(2 ** store.size) for _ in range(store.cells)])


def phases_of(life, deed=None):
    """The phases of a deed, or of what mends it, bit by bit."""
    return till_plan(life.store.cells, life.store.size, life.store.most, life.word_now, deed)


class Made(Case):
    def test_begin(self):
        die = dice(201)
        for sizes in SMALL + GREAT:
            store = Store(*sizes)
            values = [die.randrange(2 ** store.size) for _ in range(store.cells)]
            for told in (values, tuple(values)):
                life = Life(values=told, store=store)
                self.same(told_of(life), (str(store), word_for(store, values), tuple(values), 0, 0))
                self.same(life.store == store, True)

    def test_edges(self):
        for cells in (1, 256):
            for size in (1, 48):
                values = [2 ** size - 1] * cells
                life = Life(Store(cells, size, 1), values)
                self.same(life.values_now, tuple(values))
                self.same(life.do([(cells - 1, 0)]) > 1, True)
                self.same(life.values_now, tuple(values[:-1] + [0]))

    def test_fails(self):
        for value in NO_STORES:
            self.fails(BadStore("store"), Life, value, None)
            self.fails(BadStore("store"), Life, value, [0, 0])
        for values in NO_LISTS + ([], [0, 0], [0, 0, 0, 0], [0, 0, 4], [0, -1, 0], [0, True, 0], [False, 0, 0],
                                  [0, 0, None], [0, 1.0, 0], ["0", 0, 0], "000", [[0], 0, 0], [0, 0, 2 ** 70]):
            self.fails(BadDeed("values"), Life, Store(3, 2, 1), values)

    def test_what_is_passed_is_copied(self):
        values, deed, lot = [1, 2, 3], [[1, 1]], [0]
        life = Life(Store(3, 2, 1), values)
        values[0] = 0
        self.same(life.values_now, (1, 2, 3))
        life.do_cut(deed, 1, lot)
        told = told_of(life)
        deed[0][1], lot[0] = 2, 7
        deed.append([0, 0])
        self.same(told_of(life), told)
        self.same((values, deed, lot), ([0, 2, 3], [[1, 2], [0, 0]], [7]))


class Deeds(Case):
    def test_against_a_list_of_values(self):
        die = dice(202)
        for sizes in SMALL + GREAT:
            life = any_life(die, sizes)
            values, flips = list(life.values_now), 0
            with self.in_short():
                for _ in range(3 if sizes in GREAT else 12):
                    deed = any_deed(die, life.store)
                    plan = phases_of(life, deed)
                    word = with_flips(life.word_now, [bit for phase in plan for bit in phase])
                    told = life.do(deed=die.choice((deed, tuple(deed), [list(pair) for pair in deed])))
                    self.same(told, sum(len(phase) for phase in plan))
                    for cell, value in deed:
                        values[cell] = value
                    flips += told
                    self.same(told_of(life), (str(life.store), word, tuple(values), flips, 0))
                    self.same(life.mend(), 0)
                    self.same(told_of(life), (str(life.store), word, tuple(values), flips, 0))

    def test_a_deed_that_changes_nothing(self):
        life = Life(Store(3, 2, 2), [1, 2, 3])
        life.do([(0, 1), (2, 3)])
        self.same(life.values_now, (1, 2, 3))
        word, flips = life.word_now, life.flips
        self.same(life.do([(2, 3), (0, 1)]), 2)
        self.same((life.word_now, life.values_now, life.flips), (word, (1, 2, 3), flips + 2))
        # The new values are the old ones, so they are meant wherever the plug is pulled.
        for phase, lot in ((0, []), (0, [0]), (1, []), (1, [0])):
            self.same(life.do_cut([(0, 1)], phase, lot), True)
            self.same(life.values_now, (1, 2, 3))

    def test_all_cuts_of_small_stores(self):
        die = dice(203)
        cuts = again = 0
        for sizes in ((1, 1, 1), (1, 3, 1), (2, 1, 1), (2, 2, 1), (3, 1, 2), (2, 2, 2), (3, 2, 1)):
            store = Store(*sizes)
            for _ in range(16):
                word = die.randrange(2 ** store.bits)
                deed = any_deed(die, store)
                for phase, bits in enumerate(till_plan(*sizes, word, deed)):
                    for lot in lots(range(len(bits))):
                        again += self.cut_deed(die, store, word, deed, phase, lot)
                        cuts += 1
        self.assertGreater(cuts, 1000)
        self.assertGreater(again, 1000)

    def cut_deed(self, die, store, word, deed, phase, lot):
        """Pulls the plug in a deed, then in all that mends it; returns how often."""
        life = life_at(store, word)
        old, new = list(life.values_now), list(life.values_now)
        for cell, value in deed:
            new[cell] = value
        plan = phases_of(life, deed)
        lot = die.sample(lot, len(lot))
        flips = [bit for ahead in plan[:phase] for bit in ahead] + [plan[phase][number] for number in lot]
        is_new = life.do_cut(deed=deed, phase=phase, lot=lot)
        there = with_flips(word, flips)
        means = Till(store.cells, store.size, store.most, there).means()
        self.assertIn(means, (tuple(old), tuple(new)))
        self.same(is_new, means == tuple(new))
        self.same(told_of(life), (str(store), there, means, len(flips), 1))
        mending = phases_of(life)
        cuts = [(at, told) for at, bits in enumerate(mending) for told in lots(range(len(bits)))]
        for at, told in cuts:
            self.cut_mending(die, life_at(store, there), mending, at, told, deed)
        return len(cuts)

    def cut_mending(self, die, life, mending, phase, lot, deed):
        """Pulls the plug while it is mended; then it is mended, or another deed is done."""
        means, word = life.values_now, life.word_now
        flips = [bit for ahead in mending[:phase] for bit in ahead] + [mending[phase][number] for number in lot]
        self.same(life.mend_cut(phase=phase, lot=lot), len(flips))
        there = with_flips(word, flips)
        self.same(told_of(life), (str(life.store), there, means, len(flips), 1))
        if die.randrange(2):
            left = phases_of(life)
            self.same(life.mend(), sum(len(bits) for bits in left))
            self.same(life.values_now, means)
            self.same(is_open(life.store, life.word_now), False)
        wanted = list(means)
        for cell, value in die.choice((deed, any_deed(die, life.store))):
            wanted[cell] = value
            life.do([(cell, value)])
        self.same(life.values_now, tuple(wanted))

    def test_cuts_behind_cuts(self):
        die = dice(204)
        for sizes in SMALL + GREAT[:3]:
            life = any_life(die, sizes)
            may = [life.values_now]
            with self.in_short(10):
                for turn in range(6 if sizes in GREAT else 40):
                    deed = any_deed(die, life.store)
                    wanted = list(life.values_now)
                    for cell, value in deed:
                        wanted[cell] = value
                    may = (life.values_now, tuple(wanted))
                    phases = phases_of(life, deed)
                    phase = die.randrange(len(phases))
                    lot = die.sample(range(len(phases[phase])), die.randrange(len(phases[phase]) + 1))
                    self.same(life.do_cut(deed, phase, lot), life.values_now == may[1])
                    self.assertIn(life.values_now, may)
                    self.same(life.cuts, turn + 1)
                    self.same(values_in(life.store, life.word_now), life.values_now)

    def test_cuts_behind_none_and_all(self):
        life = Life(Store(3, 2, 1), [1, 2, 3])
        plan = phases_of(life, [(1, 1)])
        self.same(plan, ((7, 9), (6,), (2, 3), (6,)))
        for phase, lot, came, flips in ((0, (), False, 0), (0, (0, 1), False, 2), (1, [], False, 2), (1, [0], True, 3),
                                        (2, [], True, 3), (2, [1], True, 4), (2, [1, 0], True, 5), (3, [], True, 5),
                                        (3, [0], True, 6)):
            life = Life(Store(3, 2, 1), [1, 2, 3])
            self.same(life.do_cut([(1, 1)], phase, lot), came)
            self.same((life.flips, life.cuts, life.values_now), (flips, 1, (1, 1 if came else 2, 3)))

    def test_deeds_of_cells_that_were_just_cut(self):
        for other in ([(1, 1)], [(1, 3)], [(1, 2)], [(0, 2)]):
            for phase in range(4):
                for lot in ((), (0,)):
                    life = Life(Store(3, 2, 1), [1, 2, 3])
                    life.do_cut([(1, 1)], phase, lot)
                    wanted = list(life.values_now)
                    wanted[other[0][0]] = other[0][1]
                    plan = phases_of(life, other)
                    self.same(life.do(other), sum(len(bits) for bits in plan))
                    self.same(life.values_now, tuple(wanted))

    def test_mending_what_is_cut(self):
        life = Life(Store(3, 2, 1), [1, 2, 3])
        life.do_cut([(1, 1)], 2, [])
        self.same((life.mend_cut(0, []), life.mend_cut(0, [1]), life.mend_cut(1, [])), (0, 1, 1))
        self.same((life.values_now, life.flips, life.cuts), ((1, 1, 3), 5, 4))
        self.same((life.mend_cut(0, [0]), is_open(life.store, life.word_now), life.mend()), (1, False, 0))
        self.same((life.values_now, life.flips, life.cuts), ((1, 1, 3), 6, 5))

    def test_rows_whose_place_is_no_cell(self):
        # The place 3 is no cell of three: while it is open, the row does nothing.
        store = Store(3, 2, 1)
        life = life_at(store, 57 + 64 + 128 * 3 + 512)
        self.same(values_in(store, life.word_now), (1, 2, 3))
        self.same((life.mend(), life.word_now, life.values_now), (1, 57 + 128 * 3 + 512, (1, 2, 3)))


class Errors(Case):
    def lives(self):
        shut = Life(Store(3, 2, 2), [1, 2, 3])
        cut = Life(Store(3, 2, 2), [1, 2, 3])
        cut.do_cut([(1, 1), (0, 3)], 2, [0])
        self.same(is_open(cut.store, cut.word_now), True)
        return shut, cut

    def refuses(self, wanted, life, call, *arguments):
        before = told_of(life)
        self.fails(wanted, getattr(life, call), *arguments)
        self.same(told_of(life), before)

    def test_deeds(self):
        for deed in NO_LISTS + ([], (), [(0, 0), (1, 0), (2, 0)], [(0, 0), (0, 0)], [(1, 0), [1, 1]], [(0, 4)], [(3, 0)],
                                [(-1, 0)], [(0, -1)], [(0, 0), (1, 4)], [(0, 0), (3, 0)], [(0,)], [(0, 0, 0)], [()], [0],
                                [0, 1], [(0, 0), None], [(None, 0)], [(0, None)], [(True, 0)], [(0, True)], [(0, 1.0)],
                                ["00"], [("0", 0)], [{0, 1}], [[(0, 0)]], [(2 ** 70, 0)], [(0, 2 ** 70)]):
            for life in self.lives():
                self.refuses(BadDeed("deed"), life, "do", deed)
                for phase, lot in ((0, []), (None, None), (99, [99])):
                    self.refuses(BadDeed("deed"), life, "do_cut", deed, phase, lot)

    def test_phases(self):
        deed = [(1, 0), (2, 1)]
        for life in self.lives():
            many, mending = len(phases_of(life, deed)), len(phases_of(life))
            for phase in NO_INTEGERS + (-1, many, many + 1, 2 ** 70):
                for lot in ([], None, [99]):
                    self.refuses(BadNumber("phase"), life, "do_cut", deed, phase, lot)
            for phase in NO_INTEGERS + (-1, mending, mending + 1, 2 ** 70):
                for lot in ([], None, [99]):
                    self.refuses(BadNumber("phase"), life, "mend_cut", phase, lot)
            self.same(life.do_cut(deed, many - 1, [0]), True)

    def test_lots(self):
        deed = [(1, 0), (2, 1)]
        for life in self.lives():
            for phase, bits in enumerate(phases_of(life, deed)):
                for lot in BAD_LOTS + ([len(bits)], [0, len(bits)], [-1], [2 ** 70], [0, 0]):
                    self.refuses(BadBits("lot"), life, "do_cut", deed, phase, lot)
            for phase, bits in enumerate(phases_of(life)):
                for lot in BAD_LOTS + ([len(bits)], [len(bits), 0], [-1]):
                    self.refuses(BadBits("lot"), life, "mend_cut", phase, lot)

    def test_none_is_told_for_a_shut_store(self):
        life = self.lives()[0]
        for phase in (0, 1, -1, None):
            self.refuses(BadNumber("phase"), life, "mend_cut", phase, [])

    def test_methods_are_its_own(self):
        for name in ("__init__", "do", "mend", "do_cut", "mend_cut"):
            self.assertIn(name, vars(Life))


if __name__ == "__main__":
    unittest.main()
