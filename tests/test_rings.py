import unittest

from oneflip.errors import BadNumber
from oneflip.kept import stands_for
from oneflip.layouts import Layout, pieces_of, touched_by, words_for
from oneflip.machines import any_to_any, hub, line, ring
from oneflip.rings import hub_layout, ring_layout
from tests.tools import NO_INTEGERS, Case


def gray_row(bits):
    """Gray's order, made by putting the row of one bit less, turned about, behind itself."""
    row = [0]
    for bit in range(bits):
        row = row + [word + 2 ** bit for word in reversed(row)]
    return row


class Rings(Case):
    def test_all_ring_layouts(self):
        for states in range(2, 65):
            layout = ring_layout(states=states)
            self.assertIs(type(layout), Layout)
            bits = min(many for many in range(1, 9) if states <= 2 ** many)
            self.same(layout.bits, bits)
            for place, word in enumerate(gray_row(bits)):
                self.same(layout.means[word], place * states // 2 ** bits)

    def test_ring_layouts_stand(self):
        for states in (2, 3, 4, 5, 6, 7, 8, 9, 15, 16, 17, 31, 32, 33, 63, 64):
            layout = ring_layout(states)
            self.same(stands_for(layout, ring(states)), True)
            self.same(stands_for(layout, line(states)), True)
            self.same(stands_for(layout, hub(states)), states <= 3)
            self.same(len(pieces_of(layout)), states)
            for state, words in pieces_of(layout):
                self.assertTrue(touched_by(layout, words[0], (state + 1) % states))
                self.assertTrue(touched_by(layout, words[0], (state - 1) % states))

    def test_all_hub_layouts(self):
        for states in range(2, 65):
            layout = hub_layout(states=states)
            self.assertIs(type(layout), Layout)
            half = min(2 ** many for many in range(8) if states - 1 <= 2 ** many)
            self.same(2 ** layout.bits, 2 * half)
            for word in range(half):
                self.same(layout.means[word], 0)
                self.same(layout.means[half + word], word + 1 if word < states - 1 else 0)

    def test_hub_layouts_stand(self):
        for states in (2, 3, 4, 5, 6, 7, 8, 9, 10, 16, 17, 18, 32, 33, 34, 63, 64):
            layout = hub_layout(states)
            self.same(stands_for(layout, hub(states)), True)
            self.same(len(pieces_of(layout)), states)
            self.same([len(words_for(layout, state)) for state in range(1, states)], [1] * (states - 1))
        self.same(stands_for(hub_layout(4), any_to_any(4)), False)
        self.same([hub_layout(states).bits for states in (2, 3, 4, 5, 6, 33, 34, 64)], [1, 2, 3, 3, 4, 6, 7, 7])

    def test_fails(self):
        for make in (ring_layout, hub_layout):
            for states in NO_INTEGERS + (0, 1, -1, 65, 2 ** 70):
                self.fails(BadNumber("states"), make, states)


if __name__ == "__main__":
    unittest.main()
