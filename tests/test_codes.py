import unittest

from oneflip.codes import Code, code_for, first_word, meant_by, road_to
from oneflip.doubles import listed
from oneflip.errors import BadCode, BadNumber, BadText, BadWord
from oneflip.kept import stands_for
from oneflip.layouts import pieces_of
from oneflip.machines import any_to_any
from tests.reckon import bits_of, code_value, code_way, with_flips
from tests.tools import NO_CODES, NO_INTEGERS, NO_STRINGS, Case, dice, texts_bent

SMALL = tuple(Code(base, doubles) for base in (2, 3) for doubles in range(4))
GREAT = (Code(2, 199), Code(3, 199), Code(2, 198), Code(3, 100))


def value_of(code, word):
    return code_value(code.base, code.doubles, bits_of(word, code.bits))


class Codes(Case):
    def test_made(self):
        for base in (2, 3):
            for doubles in (0, 1, 2, 7, 198, 199):
                code = Code(doubles=doubles, base=base)
                self.same((code.base, code.doubles), (base, doubles))
                self.same(code.many, base * 2 ** doubles)
                self.same(code.bits, base - 1 + 2 * doubles)

    def test_no_two_have_equally_many_bits(self):
        bits = sorted(Code(base, doubles).bits for base in (2, 3) for doubles in range(200))
        self.same(bits, list(range(1, 401)))

    def test_fails(self):
        for base in NO_INTEGERS + (1, 4, 0, -1, -2, 5, 6, 2 ** 70):
            self.fails(BadCode("base"), Code, base, 1)
            self.fails(BadCode("base"), Code, base, None)
        for doubles in NO_INTEGERS + (-1, 200, 201, 2 ** 70):
            for base in (2, 3):
                self.fails(BadCode("doubles"), Code, base, doubles)

    def test_equal(self):
        self.same(Code(2, 3) == Code(2, 3), True)
        self.same(Code(2, 3) != Code(2, 3), False)
        for value in (Code(3, 3), Code(2, 2), Code(2, 4), None, "2 3", (2, 3), 16, Code):
            self.same(Code(2, 3) == value, False)
            self.same(value == Code(2, 3), False)
            self.same(Code(2, 3) != value, True)


class Texts(Case):
    def test_text(self):
        for base in (2, 3):
            for doubles in (0, 1, 9, 10, 199):
                text = f"{base} {doubles}"
                self.same(str(Code(base, doubles)), text)
                told = Code.read(text=text)
                self.assertIs(type(told), Code)
                self.same((told.base, told.doubles), (base, doubles))
                self.same(Code(2, 0).read(text) == Code(base, doubles), True)

    def test_wrong(self):
        for value in NO_STRINGS + (Code(2, 1),):
            self.fails(BadText(0, 0), Code.read, value)
        for text in ("2 0", "3 1", "2 10", "3 199"):
            for bent, item in texts_bent(text):
                self.fails(BadText(0, item), Code.read, bent)
        for text, item in (("", 0), ("1 0", 0), ("4 0", 0), ("0 0", 0), ("2", 1), ("3", 1), ("2 200", 1), ("3 1000", 1),
                           ("2 -1", 1), ("2 1 0", 2), ("2 1 2 1", 2), ("4 200", 0), ("4 0 0", 0), ("2 200 0", 1),
                           ("2 2 1", 2)):
            self.fails(BadText(0, item), Code.read, text)


class Meanings(Case):
    def test_small_words(self):
        for code in SMALL:
            for word in range(2 ** code.bits):
                self.same(meant_by(code=code, word=word), value_of(code, word))

    def test_words_of_the_greatest(self):
        die = dice(61)
        for code in GREAT:
            words = [0, 1, 2, 3, 2 ** code.bits - 1, 2 ** (code.bits - 1), 2 ** (code.bits - 2)]
            for word in words + [die.randrange(2 ** code.bits) for _ in range(20)]:
                self.same(meant_by(code, word), value_of(code, word))
        self.same(meant_by(Code(2, 199), 2 ** 399 - 2 ** 397), 2 ** 199)
        self.same(meant_by(Code(3, 199), 2 ** 399), 3 * 2 ** 198)
        self.same(meant_by(Code(3, 199), 2 ** 399 + 1), 0)

    def test_first_words(self):
        for code in SMALL:
            first = {}
            for word in range(2 ** code.bits):
                bits = bits_of(word, code.bits)[code.base - 1:]
                if bits[0::2] == bits[1::2]:
                    first.setdefault(value_of(code, word), word)
            self.same(sorted(first), list(range(code.many)))
            for value in range(code.many):
                self.same(first_word(code=code, value=value), first[value])

    def test_first_words_of_the_greatest(self):
        die = dice(62)
        for code in GREAT:
            for value in [0, 1, 2, code.many - 1, code.many // 2] + [die.randrange(code.many) for _ in range(10)]:
                word = first_word(code, value)
                bits = bits_of(word, code.bits)[code.base - 1:]
                self.same(bits[0::2], bits[1::2])
                self.same(value_of(code, word), value)
                self.assertNotEqual(word % 2 ** (code.base - 1), 1 if code.base == 3 else 2)


class Roads(Case):
    def test_small(self):
        for code in SMALL[:3] + SMALL[4:7]:
            for word in range(2 ** code.bits):
                for value in range(code.many):
                    self.same(road_to(code=code, word=word, value=value), code_way(code.base, code.doubles, word, value))

    def test_greater(self):
        die = dice(63)
        for _ in range(400):
            code = Code(die.choice((2, 3)), die.randrange(3, 12))
            word, value = die.randrange(2 ** code.bits), die.randrange(code.many)
            self.same(road_to(code, word, value), code_way(code.base, code.doubles, word, value))

    def test_the_greatest(self):
        die = dice(64)
        with self.in_short():
            for code in GREAT:
                for value in (0, code.many - 1, code.many // 2, die.randrange(code.many)):
                    for word in (0, 2 ** code.bits - 1, die.randrange(2 ** code.bits)):
                        road = road_to(code, word, value)
                        self.same(road, code_way(code.base, code.doubles, word, value))
                        self.assertLessEqual(len(road), code.bits)

    def test_only_the_last_flip_changes_the_value(self):
        for code in SMALL:
            for word in range(0, 2 ** code.bits, 1 if code.bits < 7 else 3):
                old = value_of(code, word)
                for value in range(code.many):
                    road = road_to(code, word, value)
                    way = [with_flips(word, road[:many]) for many in range(len(road) + 1)]
                    self.same([value_of(code, here) for here in way], [old] * len(road) + [value])
                    self.assertLessEqual(len(road), code.bits)
                    self.same(len(road) == 0, value == old)

    def test_some_roads(self):
        self.same(road_to(Code(3, 0), 1, 1), (0, 1))
        self.same(road_to(Code(3, 0), 1, 2), (1,))
        self.same(road_to(Code(3, 0), 1, 0), ())
        self.same(road_to(Code(2, 1), 7, 0), (2, 0))
        # Two flips below, the idle bit 3 put ahead of them; with bit 2 alone idle, and alike, nothing is.
        self.same(road_to(Code(3, 1), 1, 1), (0, 1))
        self.same(road_to(Code(3, 1), 9, 1), (3, 0, 1))
        self.same(road_to(Code(3, 1), 9, 4), (3, 0, 2, 1))

    def test_a_listed_code_stands(self):
        for code in SMALL:
            if code.bits <= 8:
                self.same(stands_for(listed(code), any_to_any(code.many)), True)
                self.same(len(pieces_of(listed(code))), code.many)


class Fewest(Case):
    def test_small(self):
        rows = sorted((base - 1 + 2 * doubles, base * 2 ** doubles, base, doubles)
                      for base in (2, 3) for doubles in range(200))
        values = [2 ** power + more for power in range(1, 201) for more in (-1, 0, 1)]
        values += [3 * 2 ** power + more for power in range(198) for more in (-1, 0, 1)]
        for many in sorted(set(values + list(range(2, 300)))):
            if 2 <= many <= 2 ** 200:
                _, _, base, doubles = next(row for row in rows if row[1] >= many)
                code = code_for(values=many)
                self.assertIs(type(code), Code)
                self.same((code.base, code.doubles), (base, doubles))

    def test_edges(self):
        self.same(str(code_for(2)), "2 0")
        self.same(str(code_for(3)), "3 0")
        self.same(str(code_for(4)), "2 1")
        self.same(str(code_for(2 ** 200)), "2 199")
        self.same(str(code_for(2 ** 199)), "2 198")
        self.same(str(code_for(2 ** 199 + 1)), "3 198")
        self.same(str(code_for(3 * 2 ** 198)), "3 198")
        self.same(str(code_for(3 * 2 ** 198 + 1)), "2 199")
        for values in NO_INTEGERS + (1, 0, -1, -2, 2 ** 200 + 1, 2 ** 201, 3 * 2 ** 199):
            self.fails(BadNumber("values"), code_for, values)


class Errors(Case):
    def test_codes(self):
        for value in NO_CODES:
            self.fails(BadCode("code"), meant_by, value, None)
            self.fails(BadCode("code"), first_word, value, None)
            self.fails(BadCode("code"), road_to, value, None, None)

    def test_words(self):
        for code in (Code(2, 0), Code(2, 1), Code(3, 0), Code(3, 199)):
            most = 2 ** code.bits
            for word in NO_INTEGERS + (-1, most, most + 1, 2 ** 401, -most):
                self.fails(BadWord("word"), meant_by, code, word)
                self.fails(BadWord("word"), road_to, code, word, 0)
                self.fails(BadWord("word"), road_to, code, word, None)
            self.same(meant_by(code, most - 1), value_of(code, most - 1))

    def test_values(self):
        for code in (Code(2, 0), Code(2, 1), Code(3, 0), Code(3, 199)):
            for value in NO_INTEGERS + (-1, code.many, code.many + 1, 2 ** 401):
                self.fails(BadNumber("value"), first_word, code, value)
                self.fails(BadNumber("value"), road_to, code, 0, value)
                self.fails(BadNumber("value"), road_to, code, 2 ** code.bits - 1, value)
            self.same(meant_by(code, first_word(code, code.many - 1)), code.many - 1)


if __name__ == "__main__":
    unittest.main()
