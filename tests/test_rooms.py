import unittest
from itertools import product

from oneflip.errors import BadNumber
from oneflip.rooms import changes_of, spare_bits, store_least
from tests.tools import NO_INTEGERS, Case, dice

CALLS = (changes_of, store_least, spare_bits)
EDGES = [(cells, size, most) for cells in (1, 2, 7, 8, 9, 255, 256) for size in (1, 2, 47, 48)
         for most in {1, 2, min(cells, 7), min(cells, 8)} if most <= cells]


def changes_by_rows(cells, size, most):
    """How many rows of contents are unlike noughts in 1 to so many cells: cell by cell, by how many are unlike."""
    rows = [1] + [0] * most
    for _ in range(cells):
        rows = [rows[many] + (rows[many - 1] * (2 ** size - 1) if many else 0) for many in range(most + 1)]
    return sum(rows[1:])


def is_enough(cells, size, leads, bits):
    states = 2 ** (cells * size)
    return states <= 2 ** bits and (leads < 2 or states * (leads - 2) <= (bits - 2) * 2 ** bits)


class Rooms(Case):
    def test_by_going_through_all(self):
        for cells in range(1, 5):
            for size in range(1, 4):
                for most in range(1, cells + 1):
                    if cells * size < 11:
                        wanted = sum(1 for row in product(range(2 ** size), repeat=cells)
                                     if 1 <= len([value for value in row if value]) <= most)
                        self.same(changes_of(cells=cells, size=size, most=most), wanted)

    def test_edges(self):
        with self.in_short():
            for cells, size, most in EDGES:
                self.same(changes_of(cells, size, most), changes_by_rows(cells, size, most))

    def test_least(self):
        for cells, size, most in EDGES + [(cells, size, 1) for cells in range(1, 7) for size in range(1, 7)]:
            with self.in_short():
                told = store_least(cells=cells, size=size, most=most)
            leads = changes_by_rows(cells, size, most)
            self.same(is_enough(cells, size, leads, told), True)
            self.same(is_enough(cells, size, leads, told - 1), False)

    def test_spare(self):
        die = dice(91)
        some = [(cells, die.randrange(1, 49), die.randrange(1, min(8, cells) + 1)) for cells in range(1, 257, 5)]
        for cells, size, most in EDGES + some:
            with self.in_short():
                told = spare_bits(cells=cells, size=size, most=most)
            place = next(bits for bits in range(9) if cells <= 2 ** bits)
            self.same(told, cells * size + 1 + most * (place + size) - store_least(cells, size, most))
            self.assertGreaterEqual(told, 0)

    def test_fails(self):
        for call in CALLS:
            for cells in NO_INTEGERS + (0, -1, 257, 2 ** 70):
                self.fails(BadNumber("cells"), call, cells, 1, 1)
                self.fails(BadNumber("cells"), call, cells, None, None)
            for size in NO_INTEGERS + (0, -1, 49, 2 ** 70):
                self.fails(BadNumber("size"), call, 3, size, 1)
                self.fails(BadNumber("size"), call, 3, size, None)
            for most in NO_INTEGERS + (0, -1, 9, 2 ** 70):
                self.fails(BadNumber("most"), call, 256, 48, most)
            for cells in range(1, 8):
                self.fails(BadNumber("most"), call, cells, 3, cells + 1)
                self.fails(BadNumber("most"), call, cells, 3, 8)
                self.assertGreater(call(cells, 3, cells), 0)
            self.assertGreater(call(8, 3, 8), 0)
            self.fails(BadNumber("most"), call, 9, 3, 9)


if __name__ == "__main__":
    unittest.main()
