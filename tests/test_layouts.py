import unittest

from oneflip.errors import BadLayout, BadNumber, BadText, BadWord, Misfit
from oneflip.layouts import Layout, meaning_of, piece_at, pieces_of, touched_by, words_for
from oneflip.rings import ring_layout
from tests.reckon import pieces_by_joining, touched_by_all
from tests.tools import NO_INTEGERS, NO_LAYOUTS, NO_LISTS, NO_STRINGS, Case, any_layout, dice, texts_bent

BAD_MEANS = NO_LISTS[1:] + (
    None, [], [0], [0, 1, 2], [0, 1, 2, 3, 0], [0, 1, 2, 64], [0, 1, 2, -1], [True, 1, 2, 3], [0, False, 2, 3],
    [0, 1, 2, "3"], [0, 1, 2, "-"], [0, 1.0, 2, 3], [[0], 1, 2, 3], [0, 1, 2, ()], [0, 1, 2, 2 ** 70])


class Layouts(Case):
    def test_made(self):
        layout = Layout(2, [0, None, 63, 0])
        self.same(layout.bits, 2)
        self.same(layout.means, (0, None, 63, 0))
        self.same(Layout(means=(1, 0), bits=1).means, (1, 0))
        self.same(Layout(8, [None] * 256).means, (None,) * 256)
        self.same(len(Layout(8, list(range(64)) * 4).means), 256)

    def test_bits_fail(self):
        for bits in NO_INTEGERS + (0, -1, 9, 10 ** 9, 2 ** 70):
            self.fails(BadLayout("bits"), Layout, bits, [0, 1])
            self.fails(BadLayout("bits"), Layout, bits, None)

    def test_means_fail(self):
        for means in BAD_MEANS:
            self.fails(BadLayout("means"), Layout, 2, means)
            if isinstance(means, list):
                self.fails(BadLayout("means"), Layout, 2, tuple(means))
        self.fails(BadLayout("means"), Layout, 8, [0] * 255)
        self.fails(BadLayout("means"), Layout, 8, [0] * 257)
        self.fails(BadLayout("means"), Layout, 8, [0] * 255 + [64])

    def test_what_is_passed_is_copied(self):
        means = [0, 1]
        layout = Layout(1, means)
        means[0] = 7
        self.same(layout.means, (0, 1))
        self.same(words_for(layout, 7), ())

    def test_equal(self):
        one = Layout(2, [0, 1, None, 2])
        self.same(one == Layout(2, (0, 1, None, 2)), True)
        self.same(one != Layout(2, (0, 1, None, 2)), False)
        for value in (Layout(2, [0, 1, None, 3]), Layout(2, [None, 1, None, 2]), Layout(1, [0, 1]), None,
                      "2 0 1 - 2", (2, (0, 1, None, 2)), (0, 1, None, 2)):
            self.same(one == value, False)
            self.same(value == one, False)


class Texts(Case):
    def test_text(self):
        for layout, text in ((Layout(1, [None, 5]), "1 - 5"), (Layout(1, [0, 63]), "1 0 63"),
                             (Layout(2, [10, None, None, 9]), "2 10 - - 9"), (Layout(1, [None, None]), "1 - -")):
            self.same(str(layout), text)
            told = Layout.read(text)
            self.assertIs(type(told), Layout)
            self.same((told.bits, told.means), (layout.bits, layout.means))
            self.same(layout.read(text=text) == layout, True)

    def test_back_and_forth(self):
        die = dice(11)
        for bits in range(1, 9):
            for _ in range(4):
                layout = any_layout(die, bits, 64, 30)
                self.same(Layout.read(str(layout)) == layout, True)

    def test_no_strings(self):
        for value in NO_STRINGS + (Layout(1, [0, 1]),):
            self.fails(BadText(0, 0), Layout.read, value)

    def test_bent(self):
        for text in ("1 0 63", "1 - 5", "2 0 1 - 2", "3 0 0 3 2 1 2 1 2"):
            for bent, item in texts_bent(text):
                self.fails(BadText(0, item), Layout.read, bent)

    def test_left_out_and_one_too_many(self):
        for text in ("1 0 63", "2 0 1 - 2", "3 0 0 3 2 1 2 1 2"):
            items = text.split(" ")
            for at in range(1, len(items)):
                self.fails(BadText(0, at), Layout.read, " ".join(items[:at]))
                self.fails(BadText(0, len(items) - 1), Layout.read, " ".join(items[:at] + items[at + 1:]))
                self.fails(BadText(0, len(items)), Layout.read, " ".join(items[:at] + items[at:at + 1] + items[at:]))
            for more in ("0", "-", "x", "64"):
                self.fails(BadText(0, len(items)), Layout.read, text + " " + more)
        self.fails(BadText(0, 0), Layout.read, "")
        self.fails(BadText(0, 257), Layout.read, str(Layout(8, [0] * 256)) + " 0")
        self.fails(BadText(0, 256), Layout.read, str(Layout(8, [0] * 256))[:-2])

    def test_numbers_that_cannot_stand(self):
        for text, item in (("0 0", 0), ("9 0", 0), ("- 0 0", 0), ("1 64 0", 1), ("1 0 64", 2), ("1 0 -1", 2),
                           ("1 64", 1), ("9 64", 0), ("1 0 0 64", 3), ("-1", 0)):
            self.fails(BadText(0, item), Layout.read, text)


class Pieces(Case):
    def test_small_layouts(self):
        die = dice(12)
        for _ in range(250):
            layout = any_layout(die, die.randrange(1, 6), die.randrange(1, 6), die.randrange(3))
            wanted = pieces_by_joining(layout)
            self.same(pieces_of(layout=layout), wanted)
            home = {word: words for _, words in wanted for word in words}
            for word, meant in enumerate(layout.means):
                self.same(meaning_of(layout=layout, word=word), meant)
                if meant is not None:
                    self.same(piece_at(layout=layout, word=word), home[word])
                    for state in range(7):
                        self.same(touched_by(layout=layout, word=word, state=state),
                                  touched_by_all(layout, home[word], state))

    def test_words_for(self):
        layout = Layout(3, [63, 0, None, 63, 5, None, 0, 63])
        for state in range(64):
            self.same(words_for(layout=layout, state=state),
                      tuple(word for word in range(8) if layout.means[word] == state))

    def test_edges(self):
        nothing = Layout(2, [None] * 4)
        self.same(pieces_of(nothing), ())
        self.same(words_for(nothing, 0), ())
        self.same(meaning_of(nothing, 3), None)
        self.same(pieces_of(Layout(1, [63, 63])), ((63, (0, 1)),))
        self.same(pieces_of(Layout(1, [63, 0])), ((63, (0,)), (0, (1,))))
        with self.in_short():
            self.same(pieces_of(Layout(8, [7] * 256)), ((7, tuple(range(256))),))
            board = Layout(8, [sum(word // 2 ** bit % 2 for bit in range(8)) % 2 for word in range(256)])
            self.same(pieces_of(board), tuple((board.means[word], (word,)) for word in range(256)))
            self.same(touched_by(board, 0, 1), (1, 2, 4, 8, 16, 32, 64, 128))
            self.same(touched_by(board, 255, 1), (127, 191, 223, 239, 247, 251, 253, 254))
            self.same(len(pieces_of(ring_layout(64))), 64)
        self.same(touched_by(Layout(2, [0, 1, 1, 0]), 0, 0), ())
        self.same(touched_by(Layout(2, [0, 0, 1, 0]), 0, 0), ())

    def test_fails(self):
        layout = Layout(2, [0, None, 63, 1])
        for value in NO_LAYOUTS:
            self.fails(BadLayout("layout"), meaning_of, value, None)
            self.fails(BadLayout("layout"), words_for, value, None)
            self.fails(BadLayout("layout"), pieces_of, value)
            self.fails(BadLayout("layout"), piece_at, value, None)
            self.fails(BadLayout("layout"), touched_by, value, None, None)
        for word in NO_INTEGERS + (-1, 4, 2 ** 70):
            self.fails(BadWord("word"), meaning_of, layout, word)
            self.fails(BadWord("word"), piece_at, layout, word)
            self.fails(BadWord("word"), touched_by, layout, word, 0)
            self.fails(BadWord("word"), touched_by, layout, word, None)
        for state in NO_INTEGERS + (-1, 64, 2 ** 70):
            self.fails(BadNumber("state"), words_for, layout, state)
            self.fails(BadNumber("state"), touched_by, layout, 0, state)
            self.fails(BadNumber("state"), touched_by, layout, 1, state)
        self.fails(Misfit("word"), piece_at, layout, 1)
        self.fails(Misfit("word"), touched_by, layout, 1, 63)


if __name__ == "__main__":
    unittest.main()
