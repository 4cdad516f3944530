import unittest

from oneflip.codes import Code
from oneflip.doubles import doubled, listed
from oneflip.errors import BadCode, BadLayout, BadNumber, Misfit
from oneflip.kept import stands_for
from oneflip.layouts import Layout, pieces_of
from oneflip.machines import any_to_any
from oneflip.rings import ring_layout
from tests.reckon import bits_of, code_value
from tests.tools import NO_CODES, NO_INTEGERS, NO_LAYOUTS, Case, any_layout, dice


class Listed(Case):
    def test_each_word(self):
        for base, doubles in ((2, 0), (2, 1), (2, 2), (2, 3), (3, 0), (3, 1), (3, 2), (3, 3)):
            layout = listed(code=Code(base, doubles))
            self.assertIs(type(layout), Layout)
            self.same(layout.bits, base - 1 + 2 * doubles)
            self.same(layout.means, tuple(code_value(base, doubles, bits_of(word, layout.bits))
                                          for word in range(2 ** layout.bits)))

    def test_bits_at_the_edge(self):
        self.same(listed(Code(3, 3)).bits, 8)
        self.same(max(listed(Code(3, 3)).means), 23)
        for code in (Code(2, 4), Code(3, 4), Code(2, 199), Code(3, 199)):
            with self.in_short():
                self.fails(Misfit("code"), listed, code)

    def test_fails(self):
        for value in NO_CODES:
            self.fails(BadCode("code"), listed, value)


class Doubled(Case):
    def test_each_word(self):
        die = dice(71)
        for _ in range(150):
            bits, many = die.randrange(1, 7), die.randrange(1, 33)
            layout, states = any_layout(die, bits, many, 4), die.randrange(many, 33)
            told = doubled(layout=layout, states=states)
            self.assertIs(type(told), Layout)
            self.same(told.bits, bits + 2)
            for word, meant in enumerate(told.means):
                row = bits_of(word, bits + 2)
                below = layout.means[word % 2 ** bits]
                is_more = row[bits + 1] if row[:bits].count(1) % 2 == 0 else row[bits]
                self.same(meant, None if below is None else below + states * is_more)

    def test_codes_are_doubled(self):
        for base in (2, 3):
            for doubles in range(3):
                code = Code(base, doubles)
                self.same(doubled(listed(code), code.many) == listed(Code(base, doubles + 1)), True)

    def test_what_stands_stands_doubled(self):
        for layout, states in ((ring_layout(3), 3), (Layout(2, [0, 1, None, 2]), 3), (Layout(1, [0, 0]), 1),
                               (Layout(3, [0, 0, 3, 2, 1, 2, 1, 2]), 4), (Layout(2, [0, 1, 1, None]), 2)):
            twice = doubled(layout, states)
            self.same(stands_for(twice, any_to_any(2 * states)), stands_for(layout, any_to_any(states)))
            self.same(len(pieces_of(twice)), 2 * len(pieces_of(layout)))

    def test_bits_at_the_edge(self):
        self.same(doubled(Layout(6, [0] * 64), 1).bits, 8)
        for bits in (7, 8):
            self.fails(Misfit("bits"), doubled, Layout(bits, [0] * 2 ** bits), 1)
            self.fails(Misfit("bits"), doubled, Layout(bits, [5] * 2 ** bits), 64)

    def test_states_at_the_edge(self):
        self.same(doubled(Layout(1, [0, 31]), 32).means, (0, 31, 0, 63, 32, 31, 32, 63))
        self.same(doubled(Layout(1, [None, None]), 32).means, (None,) * 8)
        for states in (33, 63, 64):
            self.fails(Misfit("states"), doubled, Layout(1, [0, 31]), states)
            self.fails(Misfit("states"), doubled, Layout(1, [None, None]), states)
        for states in (1, 30, 31):
            self.fails(Misfit("states"), doubled, Layout(1, [None, 31]), states)
        self.fails(Misfit("states"), doubled, Layout(6, [63] * 64), 32)
        self.fails(Misfit("states"), doubled, Layout(1, [63, 0]), 64)

    def test_fails(self):
        for value in NO_LAYOUTS:
            self.fails(BadLayout("layout"), doubled, value, None)
        for states in NO_INTEGERS + (0, -1, 65, 2 ** 70):
            self.fails(BadNumber("states"), doubled, Layout(1, [0, 1]), states)
            self.fails(BadNumber("states"), doubled, Layout(8, [63] * 256), states)


if __name__ == "__main__":
    unittest.main()
