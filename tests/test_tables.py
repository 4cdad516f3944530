import unittest

from oneflip.errors import BadBits, BadLayout, BadStore, BadWord
from oneflip.layouts import Layout
from oneflip.rings import ring_layout
from oneflip.stores import Store
from oneflip.tables import strip_of, table_of
from tests.reckon import Till, flips_apart
from tests.test_stores import GREAT, SMALL, words_of
from tests.tools import NO_INTEGERS, NO_LAYOUTS, NO_LISTS, NO_STORES, Case, Odd, any_layout, dice

SIGNS = {0: "0", 9: "9", 10: "a", 35: "z", 36: "A", 61: "Z", 62: "+", 63: "=", None: "."}
ALL = "".join(map(chr, range(48, 58))) + "".join(map(chr, range(97, 123))) + "".join(map(chr, range(65, 91))) + "+="


def neighbours_in_a_row(bits):
    """All words of so many bits, each a neighbour of the next: the words so far, and the same ones turned about."""
    row = [0]
    for bit in range(bits):
        row += [word + 2 ** bit for word in reversed(row)]
    return row


def table_by_rows(layout, words=None):
    columns = neighbours_in_a_row((layout.bits + 1) // 2)
    rows = []
    for high in neighbours_in_a_row(layout.bits // 2):
        told = [low + high * len(columns) for low in columns]
        rows.append("".join("." if layout.means[word] is None or (words is not None and word not in words)
                            else ALL[layout.means[word]] for word in told))
    return tuple(rows)


class Tables(Case):
    def test_some_layouts(self):
        die = dice(251)
        for bits in range(1, 9):
            for _ in range(6):
                layout = any_layout(die, bits, 64, 9)
                self.same(table_of(layout=layout), table_by_rows(layout))
                self.same(table_of(layout, None), table_by_rows(layout))
                words = die.sample(range(2 ** bits), die.randrange(2 ** bits + 1))
                self.same(table_of(layout=layout, words=words), table_by_rows(layout, words))
                self.same(table_of(layout, tuple(words)), table_by_rows(layout, words))

    def test_sizes(self):
        for bits, rows, columns in ((1, 1, 2), (2, 2, 2), (3, 2, 4), (4, 4, 4), (5, 4, 8), (6, 8, 8), (7, 8, 16),
                                    (8, 16, 16)):
            told = table_of(Layout(bits, [None] * 2 ** bits))
            self.same(told, ("." * columns,) * rows)

    def test_signs(self):
        for state in [None] + list(range(64)):
            told = table_of(Layout(1, [state, 5]))
            self.same(told, ((ALL[state] if state is not None else ".") + "5",))
        for state, sign in SIGNS.items():
            self.same(table_of(Layout(2, [state, None, None, None])), (sign + ".", ".."))
        self.same(len(set(ALL)), 64)

    def test_side_by_side(self):
        # Each word has a sign of its own: so the table tells which words stand beside one another.
        for bits in range(1, 7):
            layout = Layout(bits, list(range(2 ** bits)))
            rows = table_of(layout)
            self.same(sorted("".join(rows)), sorted(ALL[:2 ** bits]))
            for row in list(rows) + ["".join(signs) for signs in zip(*rows)]:
                for at in range(len(row)):
                    if len(row) > 1:
                        self.same(flips_apart(ALL.index(row[at - 1]), ALL.index(row[at])), 1)

    def test_no_words_and_all_words(self):
        layout = ring_layout(6)
        self.same(table_of(layout, []), ("....", "...."))
        self.same(table_of(layout, list(range(8))), table_of(layout))
        self.same(table_of(layout, [7, 0]), ("0...", "..3."))
        self.same(table_of(layout), ("0012", "5433"))

    def test_fails(self):
        for value in NO_LAYOUTS:
            self.fails(BadLayout("layout"), table_of, value)
            self.fails(BadLayout("layout"), table_of, value, [99])
        layout = Layout(2, [0, 0, 1, 2])
        for words in NO_LISTS[1:] + ([4], [0, 4], [-1], [0, 0], [3, 1, 3], [True], [0, None], [0, 1.0], ["0"], [[0]],
                                     [Odd()], [2 ** 70], "0", {0: 1}):
            self.fails(BadBits("words"), table_of, layout, words)
        self.same(table_of(Layout(8, [0] * 256), [255, 0])[0], "0" + "." * 15)


class Strips(Case):
    def test_some_words(self):
        die = dice(252)
        for sizes in SMALL + GREAT:
            store = Store(*sizes)
            for word in words_of(die, store, 6):
                till = Till(*sizes, word)
                wanted = [f"cells {' '.join(str(value) for value in till.cells)}", "open" if till.open else "shut"]
                wanted += [f"entry {place} {content}" for place, content in till.rows]
                self.same(strip_of(store=store, word=word), tuple(wanted))

    def test_what_lies_and_not_what_is_meant(self):
        till = Store(3, 2, 1)
        self.same(strip_of(till, 761), ("cells 1 2 3", "open", "entry 1 1"))
        self.same(strip_of(till, 505), ("cells 1 2 3", "open", "entry 3 0"))
        self.same(strip_of(till, 57), ("cells 1 2 3", "shut", "entry 0 0"))
        self.same(strip_of(Store(1, 1, 1), 7), ("cells 1", "open", "entry 0 1"))

    def test_fails(self):
        for value in NO_STORES:
            self.fails(BadStore("store"), strip_of, value, None)
        for word in NO_INTEGERS + (-1, 2 ** 11, 2 ** 13000):
            self.fails(BadWord("word"), strip_of, Store(3, 2, 1), word)


if __name__ == "__main__":
    unittest.main()
