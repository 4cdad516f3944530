import unittest

from oneflip.checks import is_integer, is_just, is_lot, is_phases, is_within, lot_of
from oneflip.errors import BadBits
from tests.tools import BAD_LOTS, BAD_PHASES, NO_INTEGERS, Case, Odd


class Checks(Case):
    def test_is_integer(self):
        for value in (0, 1, -1, 10 ** 500, -10 ** 500):
            self.same(is_integer(value), True)
            self.same(is_integer(value=value), True)
        for value in NO_INTEGERS:
            self.same(is_integer(value), False)

    def test_is_within(self):
        for least in (None, -2, 0, 3):
            for most in (None, -2, 0, 3):
                for value in range(-4, 6):
                    wanted = (least is None or value >= least) and (most is None or value <= most)
                    self.same(is_within(value, least, most), wanted)
                    self.same(is_within(value=value, least=least, most=most), wanted)
        for value in NO_INTEGERS:
            self.same(is_within(value, None, None), False)
            self.same(is_within(value, 0, 1), False)
        self.same(is_within(10 ** 300, 10 ** 300, 10 ** 300), True)
        self.same(is_within(10 ** 300, 10 ** 300 + 1, None), False)

    def test_is_lot(self):
        for value in ([], (), [0], (20000,), [20000, 0, 7], (5, 4), list(range(20001))):
            self.same(is_lot(value), True)
            self.same(is_lot(value=value), True)
        for value in BAD_LOTS:
            self.same(is_lot(value), False, value)

    def test_lot_of(self):
        self.same(lot_of([]), ())
        self.same(lot_of((7, 20000, 0)), (0, 7, 20000))
        self.same(lot_of(bits=[3, 1, 2]), (1, 2, 3))
        self.same(lot_of(list(range(20000, -1, -1))), tuple(range(20001)))
        for value in BAD_LOTS:
            self.fails(BadBits("bits"), lot_of, value)

    def test_what_is_passed_stays(self):
        bits = [3, 1, 2]
        told = lot_of(bits)
        self.same(bits, [3, 1, 2])
        bits.append(9)
        self.same(told, (1, 2, 3))

    def test_is_phases(self):
        for value in ([], (), [[0]], ([20000, 0],), [(1,), [1]], [[3, 2], [2, 3], (5,)], [list(range(20001))]):
            self.same(is_phases(value), True)
        for value in BAD_PHASES:
            self.same(is_phases(value), False, value)

    def test_is_just(self):
        told = ((0, (1, 2)), 1, ())
        for value in (told, [[0, [1, 2]], 1, []], [(0, (1, 2)), 1, ()]):
            self.same(is_just(value, told), True)
        for value in (((0, (1, 2)), True, ()), ((False, (1, 2)), 1, ()), ((0, (1, 2)), 1), ((0, (1, 2)), 1, (), ()),
                      ((0, (1, 2)), 1.0, ()), ((0, (2, 1)), 1, ()), ((0, 1, 2), 1, ()), ((0, (1, 2)), 1, 0), None, 0,
                      ((0, (1, 2)), 1, ""), ((0, Odd()), 1, ()), ((0, (1, 2)), Odd(), ()), Odd(), "", {}, ()):
            self.same(is_just(value, told), False, value)


if __name__ == "__main__":
    unittest.main()
