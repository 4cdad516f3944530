import unittest

from oneflip.errors import BadNumber, BadWord, Misfit
from oneflip.flips_one import flip_to, one_flip_layout, value_by_flips
from oneflip.kept import road, stands_for
from oneflip.layouts import Layout, pieces_of
from oneflip.machines import any_to_any
from tests.tools import NO_INTEGERS, Case, dice


def value_by_parity(word, size):
    """The value of a word: bit i of it is 1 if an odd number of the numbers b + 1 have this bit."""
    numbers = [bit + 1 for bit in range(2 ** size - 1) if word // 2 ** bit % 2 == 1]
    return sum(2 ** at for at in range(size) if sum(number // 2 ** at % 2 for number in numbers) % 2 == 1)


class OneFlip(Case):
    def test_layouts(self):
        for size in (1, 2, 3):
            layout = one_flip_layout(size=size)
            self.assertIs(type(layout), Layout)
            self.same(layout.bits, 2 ** size - 1)
            self.same(layout.means, tuple(value_by_parity(word, size) for word in range(2 ** layout.bits)))
            machine = any_to_any(2 ** size)
            self.same(stands_for(layout, machine), True)
            self.same(len(pieces_of(layout)), 2 ** layout.bits)
            for word in range(2 ** layout.bits):
                for value in machine.leads(layout.means[word]):
                    self.same(road(layout, machine, word, value), (flip_to(word, size, value),))
        self.same(one_flip_layout(1).means, (0, 1))

    def test_values(self):
        die = dice(31)
        for size in range(1, 9):
            bits = 2 ** size - 1
            words = {0, 1, 2 ** bits - 1, 2 ** (bits - 1)} | {die.randrange(2 ** bits) for _ in range(20)}
            for word in words:
                self.same(value_by_flips(word=word, size=size), value_by_parity(word, size))

    def test_flips(self):
        die = dice(32)
        for size in range(1, 9):
            bits = 2 ** size - 1
            for word in (0, 2 ** bits - 1, die.randrange(2 ** bits)):
                for value in range(2 ** size):
                    bit = flip_to(word=word, size=size, value=value)
                    if value == value_by_parity(word, size):
                        self.same(bit, None)
                    else:
                        self.assertIn(bit, range(bits))
                        there = word + 2 ** bit if word // 2 ** bit % 2 == 0 else word - 2 ** bit
                        self.same(value_by_parity(there, size), value)

    def test_sizes_fail(self):
        for size in NO_INTEGERS + (0, -1, 2 ** 70):
            self.fails(BadNumber("size"), one_flip_layout, size)
            self.fails(BadNumber("size"), value_by_flips, 0, size)
            self.fails(BadNumber("size"), flip_to, 0, size, None)
        self.fails(BadNumber("size"), one_flip_layout, 4)
        self.fails(BadNumber("size"), value_by_flips, 2 ** 300, 9)
        self.fails(BadNumber("size"), flip_to, 2 ** 300, 9, 0)

    def test_words_fail(self):
        for word in NO_INTEGERS + (-1, -2 ** 70):
            self.fails(BadWord("word"), value_by_flips, word, None)
            self.fails(BadWord("word"), flip_to, word, 9, None)
        for size in range(1, 9):
            most = 2 ** (2 ** size - 1)
            self.fails(Misfit("word"), value_by_flips, most, size)
            self.fails(Misfit("word"), flip_to, most, size, 0)
            self.fails(Misfit("word"), flip_to, most, size, 255)
            self.same(value_by_flips(most - 1, size), value_by_parity(most - 1, size))
        self.fails(Misfit("word"), value_by_flips, 2 ** 20000, 8)

    def test_values_fail(self):
        for value in NO_INTEGERS + (-1, 256, 2 ** 70):
            self.fails(BadNumber("value"), flip_to, 0, 2, value)
            self.fails(BadNumber("value"), flip_to, 8, 2, value)
        for size in range(1, 8):
            self.fails(Misfit("value"), flip_to, 0, size, 2 ** size)
            self.fails(Misfit("value"), flip_to, 0, size, 255)
        self.same(flip_to(0, 8, 255), 254)


if __name__ == "__main__":
    unittest.main()
