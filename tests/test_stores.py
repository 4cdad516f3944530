import unittest

from oneflip.errors import BadDeed, BadStore, BadText, BadWord
from oneflip.stores import Store, deed_plan, done_in, is_open, mend_plan, rows_in, values_in, word_for
from tests.reckon import Till, lots, till_plan, with_flips
from tests.tools import NO_INTEGERS, NO_LISTS, NO_STORES, NO_STRINGS, Case, dice, texts_bent

TINY = ((1, 1, 1), (2, 1, 1), (2, 1, 2), (3, 1, 1), (1, 3, 1), (2, 2, 1))
SMALL = TINY + ((3, 2, 1), (3, 1, 2), (2, 2, 2), (4, 1, 2), (3, 1, 3), (5, 2, 1))
GREAT = ((256, 48, 8), (256, 1, 1), (1, 48, 1), (255, 47, 8), (129, 3, 8), (8, 6, 8))


def words_of(die, store, many):
    """Some words of a store: the first, the last, and others, of which half are open."""
    end = 2 ** store.bits
    return [0, end - 1] + [die.randrange(end) for _ in range(many)]


def any_deed(die, store, many=None):
    many = die.randrange(1, store.most + 1) if many is None else many
    return [(cell, die.randrange(2 ** store.size)) for cell in die.sample(range(store.cells), many)]


def behind_plan(word, phases):
    for phase in phases:
        word = with_flips(word, phase)
    return word


class Stores(Case):
    def test_made(self):
        for cells, size, most in SMALL + GREAT:
            store = Store(most=most, size=size, cells=cells)
            self.same((store.cells, store.size, store.most), (cells, size, most))
            till = Till(cells, size, most, 0)
            self.same((store.place_bits, store.bits), (till.sizes[3], till.many))
        for cells, place in ((1, 0), (2, 1), (3, 2), (4, 2), (5, 3), (128, 7), (129, 8), (256, 8)):
            self.same(Store(cells, 1, 1).place_bits, place)

    def test_fails(self):
        for cells in NO_INTEGERS + (0, -1, 257, 2 ** 70):
            self.fails(BadStore("cells"), Store, cells, 1, 1)
            self.fails(BadStore("cells"), Store, cells, None, None)
        for size in NO_INTEGERS + (0, -1, 49, 2 ** 70):
            self.fails(BadStore("size"), Store, 3, size, 1)
            self.fails(BadStore("size"), Store, 3, size, None)
        for most in NO_INTEGERS + (0, -1, 9, 2 ** 70):
            self.fails(BadStore("most"), Store, 256, 1, most)
        for cells in range(1, 8):
            self.fails(BadStore("most"), Store, cells, 1, cells + 1)
            self.same(Store(cells, 1, cells).most, cells)
        for cells in (8, 9):
            self.fails(BadStore("most"), Store, cells, 1, 9)
            self.same(Store(cells, 1, 8).most, 8)

    def test_equal(self):
        self.same(Store(3, 2, 1) == Store(3, 2, 1), True)
        self.same(Store(3, 2, 1) != Store(3, 2, 1), False)
        for value in (Store(4, 2, 1), Store(3, 3, 1), Store(3, 2, 2), None, "3 2 1", (3, 2, 1), Store):
            self.same(Store(3, 2, 1) == value, False)
            self.same(value == Store(3, 2, 1), False)
            self.same(Store(3, 2, 1) != value, True)


class Texts(Case):
    def test_text(self):
        for cells, size, most in SMALL + GREAT:
            text = f"{cells} {size} {most}"
            self.same(str(Store(cells, size, most)), text)
            told = Store.read(text=text)
            self.assertIs(type(told), Store)
            self.same((told.cells, told.size, told.most), (cells, size, most))
            self.same(told.read("3 2 1") == Store(3, 2, 1), True)

    def test_wrong(self):
        for value in NO_STRINGS + (Store(3, 2, 1),):
            self.fails(BadText(0, 0), Store.read, value)
        for text in ("3 2 1", "256 48 8", "1 1 1", "10 10 1"):
            for bent, item in texts_bent(text):
                self.fails(BadText(0, item), Store.read, bent)
        for text, item in (("", 0), ("0 1 1", 0), ("257 1 1", 0), ("3", 1), ("3 0 1", 1), ("3 49 1", 1), ("3 2", 2),
                           ("3 2 0", 2), ("3 2 4", 2), ("1 2 2", 2), ("9 2 9", 2), ("8 2 9", 2), ("3 2 1 1", 3),
                           ("3 2 1 3 2 1", 3), ("3 3 2 1", 3), ("257 49 9", 0), ("256 49 9", 1), ("3 2 4 1", 2)):
            self.fails(BadText(0, item), Store.read, text)


class Meanings(Case):
    def test_all_words_of_small_stores(self):
        for sizes in SMALL:
            store = Store(*sizes)
            for word in range(0, 2 ** store.bits, 1 if store.bits < 12 else 7):
                till = Till(*sizes, word)
                self.same(values_in(store=store, word=word), till.means())
                self.same(is_open(store=store, word=word), till.open == 1)
                self.same(rows_in(store=store, word=word), tuple(till.rows))

    def test_words_of_great_stores(self):
        die = dice(101)
        for sizes in GREAT:
            store = Store(*sizes)
            with self.in_short():
                for word in words_of(die, store, 8):
                    till = Till(*sizes, word)
                    self.same(values_in(store, word), till.means())
                    self.same(is_open(store, word), till.open == 1)
                    self.same(rows_in(store, word), tuple(till.rows))

    def test_rows(self):
        store = Store(3, 2, 2)
        till = Till(3, 2, 2, word_for(store, [1, 2, 3]))
        for rows, shown in (([(1, 0), (1, 3)], (1, 3, 3)), ([(1, 3), (1, 0)], (1, 0, 3)), ([(0, 2), (2, 0)], (2, 2, 0)),
                            ([(3, 0), (3, 1)], (1, 2, 3)), ([(3, 0), (0, 0)], (0, 2, 3)), ([(0, 1), (1, 2)], (1, 2, 3))):
            till.rows = rows
            for till.open in (0, 1):
                self.same(values_in(store, till.word()), shown if till.open else (1, 2, 3))
                self.same(rows_in(store, till.word()), tuple(rows))
                self.same(is_open(store, till.word()), till.open == 1)

    def test_first_words(self):
        die = dice(102)
        for sizes in SMALL + GREAT:
            store = Store(*sizes)
            most = 2 ** store.size - 1
            for values in ([0] * store.cells, [most] * store.cells,
                           [die.randrange(most + 1) for _ in range(store.cells)]):
                word = word_for(store=store, values=values)
                self.same(word, sum(value * 2 ** (store.size * cell) for cell, value in enumerate(values)))
                self.same(word_for(store, tuple(values)), word)
                self.same((values_in(store, word), is_open(store, word)), (tuple(values), False))
                self.same(rows_in(store, word), ((0, 0),) * store.most)


class Plans(Case):
    def test_all_words_of_tiny_stores(self):
        for sizes in TINY:
            store = Store(*sizes)
            pairs = [(cell, value) for cell in range(store.cells) for value in range(2 ** store.size)]
            deeds = [deed for deed in lots(pairs) if 1 <= len({cell for cell, _ in deed}) == len(deed) <= store.most]
            for word in range(2 ** store.bits):
                self.same(mend_plan(store=store, word=word), till_plan(*sizes, word))
                for deed in deeds:
                    self.same(deed_plan(store=store, word=word, deed=deed), till_plan(*sizes, word, deed))

    def test_words_of_other_stores(self):
        die = dice(103)
        for sizes in SMALL + GREAT:
            store = Store(*sizes)
            with self.in_short(20):
                for word in words_of(die, store, 1 if sizes in GREAT else 6):
                    self.same(mend_plan(store, word), till_plan(*sizes, word))
                    for many in {1, store.most, die.randrange(1, store.most + 1)}:
                        deed = any_deed(die, store, many)
                        self.same(deed_plan(store, word, deed), till_plan(*sizes, word, deed))

    def test_done(self):
        die = dice(104)
        for sizes in SMALL + GREAT:
            store = Store(*sizes)
            for word in words_of(die, store, 6):
                deed = any_deed(die, store)
                wanted = list(Till(*sizes, word).means())
                for cell, value in deed:
                    wanted[cell] = value
                self.same(done_in(store=store, word=word, deed=deed), tuple(wanted))
                self.same(done_in(store, word, tuple([cell, value] for cell, value in deed)), tuple(wanted))
                behind = behind_plan(word, deed_plan(store, word, deed))
                self.same((values_in(store, behind), is_open(store, behind)), (tuple(wanted), False))
                self.same(rows_in(store, behind), tuple(sorted(deed) + [max(deed)] * (store.most - len(deed))))
                mended = behind_plan(word, mend_plan(store, word))
                self.same((values_in(store, mended), is_open(store, mended)), (Till(*sizes, word).means(), False))
                self.same(rows_in(store, mended), rows_in(store, word))

    def test_a_deed_that_changes_nothing(self):
        store = Store(3, 2, 1)
        word = word_for(store, [1, 2, 3])
        self.same(deed_plan(store, word, [(0, 1)]), ((9,), (6,), (6,)))
        self.same(deed_plan(store, word, [(0, 0)]), ((6,), (0,), (6,)))
        twice = behind_plan(word, deed_plan(store, word, [(2, 3)]))
        self.same(deed_plan(store, twice, [(2, 3)]), ((6,), (6,)))
        self.same(done_in(store, word, [(2, 3)]), (1, 2, 3))
        self.same(mend_plan(store, 64 + word_for(store, [0, 2, 3])), ((6,),))

    def test_the_order_of_a_deed_makes_no_difference(self):
        store = Store(5, 2, 3)
        word = word_for(store, [0, 1, 2, 3, 0])
        deed = [(4, 3), (0, 2), (2, 1)]
        wanted = till_plan(5, 2, 3, word, deed)
        for told in ([(4, 3), (0, 2), (2, 1)], ([2, 1], [4, 3], [0, 2]), [(0, 2), [2, 1], (4, 3)]):
            self.same(deed_plan(store, word, told), wanted)

    def test_wherever_the_plug_is_pulled(self):
        die = dice(105)
        cuts = 0
        for sizes in ((2, 1, 1), (2, 2, 1), (3, 1, 2), (2, 2, 2), (4, 1, 3), (3, 2, 1)):
            store = Store(*sizes)
            for word in words_of(die, store, 12):
                old, deed = values_in(store, word), any_deed(die, store)
                new, phases = done_in(store, word, deed), deed_plan(store, word, deed)
                opened = len(mend_plan(store, word))
                begun = next(at for at in range(opened, len(phases)) if phases[at] == (store.cells * store.size,))
                for at, phase in enumerate(phases):
                    ahead = behind_plan(word, phases[:at])
                    for lot in lots(phase) if len(phase) < 8 else [(), phase, phase[:3], phase[4:]]:
                        there = with_flips(ahead, lot)
                        cuts += 1
                        is_new = at > begun or (at == begun and lot == phase)
                        self.same(values_in(store, there), new if is_new else old)
                        other = any_deed(die, store)
                        for again in (deed, other):
                            wanted = done_in(store, there, again)
                            behind = behind_plan(there, deed_plan(store, there, again))
                            self.same((values_in(store, behind), is_open(store, behind)), (wanted, False))
                        self.same(done_in(store, there, deed), new)
        self.assertGreater(cuts, 1000)


class Errors(Case):
    def test_stores(self):
        for value in NO_STORES:
            for call in (values_in, is_open, rows_in, word_for, mend_plan):
                self.fails(BadStore("store"), call, value, None)
            for call in (deed_plan, done_in):
                self.fails(BadStore("store"), call, value, None, None)

    def test_words(self):
        for store in (Store(1, 1, 1), Store(3, 2, 1), Store(256, 48, 8)):
            end = 2 ** store.bits
            for word in NO_INTEGERS + (-1, end, end + 1, 2 ** 13000, -end):
                for call in (values_in, is_open, rows_in, mend_plan):
                    self.fails(BadWord("word"), call, store, word)
                for call in (deed_plan, done_in):
                    self.fails(BadWord("word"), call, store, word, [(0, 0)])
                    self.fails(BadWord("word"), call, store, word, None)
            self.same(is_open(store, end - 1), True)

    def test_deeds(self):
        store = Store(3, 2, 2)
        for deed in NO_LISTS + ([], (), [(0, 0), (1, 0), (2, 0)], [(0, 0), (0, 0)], [(1, 0), [1, 1]], [(0, 4)], [(3, 0)],
                                [(-1, 0)], [(0, -1)], [(0, 0), (1, 4)], [(0, 0), (3, 0)], [(0,)], [(0, 0, 0)], [()], [0],
                                [0, 1], (0, 1), [(0, 0), None], [None], [(None, 0)], [(0, None)], [(True, 0)],
                                [(0, True)], [(False, 0)], [(1, 1), (0, False)], [(0, 1.0)], [(0.0, 1)], ["00"],
                                [("0", 0)], [(0, "0")], [{0, 1}], [{0: 0, 1: 1}], [((0,), 0)], [(0, (0,))], [[(0, 0)]],
                                [(2 ** 70, 0)], [(0, 2 ** 70)]):
            for call in (deed_plan, done_in):
                self.fails(BadDeed("deed"), call, store, 0, deed)
                self.fails(BadDeed("deed"), call, store, 2 ** store.bits - 1, deed)
        for sizes in ((8, 2, 8), (256, 48, 8), (4, 1, 4), (4, 1, 1)):
            store = Store(*sizes)
            deed = [(cell, 1) for cell in range(store.most)]
            self.same(done_in(store, 0, deed)[:store.most], (1,) * store.most)
            self.same(len(deed_plan(store, 0, deed)), 4)
            for told in (deed + [(store.most, 1)], deed + deed[:1], deed[1:] * 2 + deed[:1] * 2):
                self.fails(BadDeed("deed"), done_in, store, 0, told)
                self.fails(BadDeed("deed"), deed_plan, store, 0, told)

    def test_values(self):
        store = Store(3, 2, 1)
        for values in NO_LISTS + ([], [0, 0], [0, 0, 0, 0], [0, 0, 4], [0, -1, 0], [0, True, 0], [False, 0, 0],
                                  [0, 0, None], [0, 1.0, 0], ["0", 0, 0], "000", [[0], 0, 0], [0, 0, 2 ** 70], [(0, 0)],
                                  [(0, 0), (1, 0), (2, 0)]):
            self.fails(BadDeed("values"), word_for, store, values)
        self.same(word_for(store, [3, 3, 3]), 63)

    def test_what_is_passed_stays(self):
        store = Store(3, 2, 2)
        values, deed = [1, 2, 3], [[2, 0], [0, 3]]
        word = word_for(store, values)
        plan = deed_plan(store, word, deed)
        self.same(done_in(store, word, deed), (3, 2, 0))
        self.same((values, deed), ([1, 2, 3], [[2, 0], [0, 3]]))
        values[0] = deed[0][1] = 0
        self.same(plan, till_plan(3, 2, 2, word, [(2, 0), (0, 3)]))


if __name__ == "__main__":
    unittest.main()
