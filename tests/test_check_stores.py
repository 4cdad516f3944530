import unittest

from oneflip.check_stores import counting_in, is_plain, shows_whole
from oneflip.errors import BadBits, BadDeed, BadStore, BadWord
from oneflip.kept import kept_of, stands_for
from oneflip.layouts import Layout
from oneflip.machines import Machine
from oneflip.papers import Paper
from oneflip.phases import cut_words
from oneflip.stores import Store, deed_plan, done_in, mend_plan, values_in
from tests.reckon import Till, lots, with_flips
from tests.test_stores import GREAT, SMALL, TINY, any_deed, behind_plan, words_of
from tests.tools import BAD_LOTS, NO_INTEGERS, NO_LISTS, NO_STORES, Case, Odd, dice

TILL = Store(3, 2, 1)


def fields_of(sizes):
    """For each bit of a word a pair of what it is of and its number: cell, open, place or content."""
    cells, size, most = sizes
    place = Till(*sizes, 0).sizes[3]
    fields = [("cell", cell) for cell in range(cells) for _ in range(size)] + [("open", 0)]
    for row in range(most):
        fields += [("place", row)] * place + [("content", row)] * size
    return fields


def counts_in(sizes, word, bits=None):
    """Those of some bits that count, by flipping each of them alone: what is meant changes.

    The open bit and, while the store is open, places count even if it does not.
    """
    till, fields = Till(*sizes, word), fields_of(sizes)
    counting = []
    for bit in range(till.many) if bits is None else bits:
        changes = Till(*sizes, with_flips(word, [bit])).means() != till.means()
        if fields[bit][0] == "open" or changes or (fields[bit][0] == "place" and till.open):
            counting.append(bit)
    return tuple(counting)


def plain_at(sizes, word, phase, counting=None):
    counting = counts_in(sizes, word, phase) if counting is None else [bit for bit in phase if bit in counting]
    kinds = [fields_of(sizes)[bit][0] for bit in counting]
    return len(counting) <= 1 and (not {"open", "place"} & set(kinds) or len(phase) == 1)


def is_whole(sizes, word, deed, phases):
    """Whether phases do a deed wholly: by what is told at each word."""
    old = Till(*sizes, word).means()
    new = list(old)
    for cell, value in deed:
        new[cell] = value
    for phase in phases:
        if not plain_at(sizes, word, phase) or Till(*sizes, word).means() not in (old, tuple(new)):
            return False
        word = with_flips(word, phase)
    return Till(*sizes, word).means() == tuple(new)


class Counting(Case):
    def test_all_words_of_tiny_stores(self):
        for sizes in TINY:
            store = Store(*sizes)
            for word in range(2 ** store.bits):
                self.same(counting_in(store=store, word=word), counts_in(sizes, word))

    def test_words_of_other_stores(self):
        die = dice(221)
        for sizes in SMALL + ((8, 6, 8), (1, 48, 1), (20, 3, 8), (4, 2, 4)):
            store = Store(*sizes)
            for word in words_of(die, store, 8):
                self.same(counting_in(store, word), counts_in(sizes, word))

    def test_rows_of_one_place(self):
        # Of rows with one place only the last one counts; a place that is no cell has no content that counts.
        till = Till(3, 2, 3, 0)
        till.open = 1
        for rows, wanted in (([(1, 2), (1, 3), (1, 0)], (0, 1, 4, 5, 6, 7, 8, 11, 12, 15, 16, 17, 18)),
                             ([(1, 2), (1, 3), (3, 0)], (0, 1, 4, 5, 6, 7, 8, 11, 12, 13, 14, 15, 16)),
                             ([(3, 2), (3, 3), (3, 0)], (0, 1, 2, 3, 4, 5, 6, 7, 8, 11, 12, 15, 16)),
                             ([(0, 2), (1, 3), (2, 0)], (6, 7, 8, 9, 10, 11, 12, 13, 14, 15, 16, 17, 18)),
                             ([(0, 2), (1, 3), (0, 0)], (4, 5, 6, 7, 8, 11, 12, 13, 14, 15, 16, 17, 18))):
            till.rows = rows
            till.open = 1
            self.same(counting_in(Store(3, 2, 3), till.word()), wanted)
            till.open = 0
            self.same(counting_in(Store(3, 2, 3), till.word()), (0, 1, 2, 3, 4, 5, 6))

    def test_bits_that_do_not_count_change_nothing(self):
        die = dice(222)
        for sizes in SMALL:
            store = Store(*sizes)
            for word in words_of(die, store, 12):
                counting = counting_in(store, word)
                idle = [bit for bit in range(store.bits) if bit not in counting]
                for _ in range(8):
                    lot = die.sample(idle, die.randrange(len(idle) + 1))
                    there = with_flips(word, lot)
                    self.same(Till(*sizes, there).means(), Till(*sizes, word).means())
                    self.same(counting_in(store, there), counting)

    def test_greatest(self):
        die = dice(223)
        store = Store(256, 48, 8)
        with self.in_short():
            for word in words_of(die, store, 6):
                till = Till(256, 48, 8, word)
                places = [place for place, _ in till.rows] if till.open else []
                told = counting_in(store, word)
                self.same(len(told), 256 * 48 + 1 + (64 if till.open else 0))
                self.same([bit for bit in told if bit < 256 * 48],
                          [bit for bit in range(256 * 48) if bit // 48 not in places])

    def test_fails(self):
        for value in NO_STORES:
            self.fails(BadStore("store"), counting_in, value, None)
        for word in NO_INTEGERS + (-1, 2 ** 11, 2 ** 11 + 1, 2 ** 13000):
            self.fails(BadWord("word"), counting_in, TILL, word)


class Plain(Case):
    def test_all_phases_of_tiny_stores(self):
        seen = [0, 0]
        for sizes in ((1, 1, 1), (2, 1, 1), (1, 3, 1)):
            store = Store(*sizes)
            for word in range(2 ** store.bits):
                counting = counts_in(sizes, word)
                for phase in lots(range(store.bits))[1:]:
                    wanted = plain_at(sizes, word, phase, counting)
                    self.same(is_plain(store=store, word=word, phase=phase), wanted)
                    seen[wanted] += 1
        self.assertGreater(min(seen), 500)

    def test_behind_any_lot_of_a_plain_phase(self):
        die = dice(224)
        for sizes in SMALL:
            store = Store(*sizes)
            for word in words_of(die, store, 20):
                counting = counting_in(store, word)
                idle = [bit for bit in range(store.bits) if bit not in counting]
                for bit in counting:
                    phase = [bit] + die.sample(idle, min(len(idle), 4))
                    if is_plain(store, word, phase):
                        old, new = values_in(store, word), values_in(store, with_flips(word, phase))
                        for lot in lots(phase):
                            self.assertIn(values_in(store, with_flips(word, lot)), (old, new))

    def test_open_bit_and_places_alone(self):
        opened = 57 + 64 + 128 * 1 + 512 * 1
        for word, phase, wanted in ((57, [6], True), (57, [6, 7], False), (57, [7, 8, 9, 10], True), (57, [0], True),
                                    (57, [0, 1], False), (57, [0, 7], True), (57, (10, 5), True), (opened, [7], True),
                                    (opened, [7, 2], False), (opened, [7, 8], False), (opened, [2, 3], True),
                                    (opened, [9], True), (opened, [9, 2], True), (opened, [3, 10, 2], True),
                                    (opened, [9, 10], False), (opened, [0, 9], False), (opened, [6], True),
                                    (opened, [6, 2], False), (opened, [2, 6], False)):
            self.same(is_plain(TILL, word, phase), wanted)
            self.same(is_plain(TILL, word, tuple(phase[::-1])), wanted)

    def test_plans_are_plain(self):
        die = dice(225)
        for sizes in SMALL + GREAT:
            store = Store(*sizes)
            for word in words_of(die, store, 6):
                here = word
                for phase in deed_plan(store, word, any_deed(die, store)):
                    self.same(is_plain(store, here, phase), True)
                    here = behind_plan(here, [phase])
                here = word
                for phase in mend_plan(store, word):
                    self.same(is_plain(store, here, phase), True)
                    here = behind_plan(here, [phase])

    def test_fails(self):
        for value in NO_STORES:
            self.fails(BadStore("store"), is_plain, value, None, None)
            self.fails(BadStore("store"), is_plain, value, 0, [0])
        for word in NO_INTEGERS + (-1, 2 ** 11, 2 ** 13000):
            self.fails(BadWord("word"), is_plain, TILL, word, None)
        for phase in BAD_LOTS + ([], (), [11], [0, 11], [2 ** 70], [0, 0]):
            self.fails(BadBits("phase"), is_plain, TILL, 57, phase)
        self.same(is_plain(TILL, 57, [10]), True)
        self.fails(BadBits("phase"), is_plain, Store(256, 48, 8), 0, [12737])
        self.same(is_plain(Store(256, 48, 8), 0, [12736]), True)


class Whole(Case):
    def test_plans(self):
        die = dice(226)
        for sizes in SMALL + GREAT:
            store = Store(*sizes)
            with self.in_short(10):
                for word in words_of(die, store, 4):
                    deed = any_deed(die, store)
                    plan = deed_plan(store, word, deed)
                    self.same(shows_whole(store=store, word=word, deed=deed, value=plan), True)
                    self.same(shows_whole(store, word, tuple(deed), [list(phase[::-1]) for phase in plan]), True)
                    self.same(shows_whole(store, word, deed, [[bit] for phase in plan for bit in phase]), True)
                    self.same(shows_whole(store, word, deed, plan[:-1]), True)
                    first = plan.index((store.cells * store.size,))
                    changes = done_in(store, word, deed) != values_in(store, word)
                    if not mend_plan(store, word):
                        self.same(shows_whole(store, word, deed, plan[:first]), not changes)

    def test_all_short_rows_of_phases(self):
        seen = [0, 0]
        for sizes, bits in (((1, 2, 1), range(5)), ((2, 1, 1), range(5))):
            store = Store(*sizes)
            phases = lots(bits)[1:]
            deeds = [[(cell, value)] for cell in range(store.cells) for value in range(2 ** store.size)]
            for word in range(2 ** store.bits):
                for deed in deeds[::2]:
                    for told in [[]] + [[one] for one in phases] + [[phases[at], phases[-2 * at]] for at in range(9)]:
                        wanted = is_whole(sizes, word, deed, told)
                        self.same(shows_whole(store, word, deed, told), wanted)
                        seen[wanted] += 1
        self.assertGreater(min(seen), 300)

    def test_bent_plans(self):
        die = dice(227)
        seen = [0, 0]
        for sizes in SMALL:
            store = Store(*sizes)
            for word in words_of(die, store, 1):
                deed = any_deed(die, store)
                plan = [list(phase) for phase in deed_plan(store, word, deed)]
                for at in range(len(plan)):
                    for bit in [die.randrange(store.bits) for _ in range(3)] + plan[at][:1]:
                        bent = sorted(set(plan[at]) ^ {bit})
                        for told in (plan[:at] + [bent] * bool(bent) + plan[at + 1:], plan[:at] + plan[at + 1:],
                                     plan[:at] + [plan[at], [bit]] + plan[at + 1:], plan[:at + 1], plan[::-1]):
                            wanted = is_whole(sizes, word, deed, told)
                            self.same(shows_whole(store, word, deed, told), wanted)
                            seen[wanted] += 1
        self.assertGreater(min(seen), 200)

    def test_neither_old_nor_new_on_the_way(self):
        # From 2 to 1 in two flips of the cell itself: 3 or 0 is meant between.
        store = Store(1, 2, 1)
        self.same(shows_whole(store, 2, [(0, 1)], [[0], [1]]), False)
        self.same(shows_whole(store, 2, [(0, 3)], [[0]]), True)
        self.same(shows_whole(store, 2, [(0, 3)], [[0], [0], [0]]), True)
        self.same(shows_whole(store, 2, [(0, 3)], [[0], [0]]), False)
        self.same(shows_whole(store, 2, [(0, 2)], [[0], [0]]), False)
        # Behind the new values the old ones may be meant again, as long as the new ones are at the end.
        self.same(shows_whole(store, 2, [(0, 3)], [[0], [3], [0], [4], [0]]), True)

    def test_values_that_are_no_phases(self):
        for value in NO_LISTS + (Odd(), Paper("whole"), [[]], [[7, 9], []], [[11]], [[2, 11]], [7, 9], "7", [[7, 7]],
                                 [[True]], [[None]], [None], [[7.0]], [["7"]], [[-1]], [[2 ** 70]], [[[7]]], [{7}],
                                 [Odd()], [[Odd()]]):
            self.same(shows_whole(TILL, 57, [(1, 1)], value), False)
            self.same(shows_whole(TILL, 57, [(1, 2)], value), False)
        self.same(shows_whole(TILL, 57, [(1, 2)], ()), True)

    def test_very_many_phases(self):
        store = Store(256, 48, 8)
        deed = [(cell, 5) for cell in range(8)]
        plan = list(deed_plan(store, 2 ** 12736, deed))
        with self.in_short(10):
            self.same(shows_whole(store, 2 ** 12736, deed, [[12735], [12735]] * 2000 + plan), True)
            self.same(shows_whole(store, 2 ** 12736, deed, plan + [[12288]] * 500), True)
            self.same(shows_whole(store, 2 ** 12736, deed, plan + [[0], [0]] * 500), False)

    def test_fails(self):
        for value in (None, [[6]]):
            for store in NO_STORES:
                self.fails(BadStore("store"), shows_whole, store, None, None, value)
            for word in NO_INTEGERS + (-1, 2 ** 11):
                self.fails(BadWord("word"), shows_whole, TILL, word, None, value)
            for deed in NO_LISTS + ([], [(0, 0), (1, 0)], [(3, 0)], [(0, 4)], [(0, True)], [(0,)], [0, 0]):
                self.fails(BadDeed("deed"), shows_whole, TILL, 57, deed, value)


class Stands(Case):
    def test_small_stores_stand_as_layouts(self):
        # Word by word a store is a layout of the machine whose states are all values of its cells.
        for sizes in ((1, 1, 1), (2, 1, 1), (1, 2, 1), (1, 3, 1), (2, 1, 2)):
            store = Store(*sizes)
            self.assertLessEqual(store.bits, 8)
            states = sorted({values_in(store, word) for word in range(2 ** store.bits)})
            layout = Layout(store.bits, [states.index(values_in(store, word)) for word in range(2 ** store.bits)])
            changes = [(old, new) for old, one in enumerate(states) for new, other in enumerate(states)
                       if 1 <= sum(a != b for a, b in zip(one, other)) <= store.most]
            machine = Machine(len(states), changes)
            self.same(stands_for(layout, machine), True)
            self.same(len(kept_of(layout, machine)), 2 ** store.bits)
            for word in range(0, 2 ** store.bits, 3):
                for old, new in changes:
                    if states[old] == values_in(store, word):
                        deed = [pair for pair in enumerate(states[new]) if pair[1] != states[old][pair[0]]]
                        lie = cut_words(word, deed_plan(store, word, deed))
                        self.assertLessEqual({layout.means[there] for there in lie}, {old, new})


if __name__ == "__main__":
    unittest.main()
