import unittest

from oneflip.errors import BadBits, BadNumber, BadWord, Misfit, TooMany
from oneflip.words import (differing, flipped, gray, lots_of, most_pairs, neighbours_of, ones_in, pairs_among,
                           place_of)
from tests.tools import NO_INTEGERS, NO_LISTS, Case, dice

NO_WORDS = NO_INTEGERS + (-1, -2 ** 70)
BAD_LOTS = NO_LISTS + ([1, 1], [-1], [20001], [True], [0, 1, None], [1.0], ["0"], [[0]], (2, 0, 2))
BAD_LISTS = NO_LISTS + ([1, 2, 1], (0, 0), [-1], [0, -1], [True], [0, True], [0, 1, None], [1.0], ["0"], [[0]], [{}],
                        list(range(1024)) + [0], list(range(2000)) + [True], [2 ** 401, 2 ** 401])


def bits_of(word):
    """The bits that are 1, reckoned by dividing, as [4] tells it."""
    return [bit for bit in range(word.bit_length()) if word // 2 ** bit % 2 == 1]


def pairs_by_all(words):
    return [(one, other) for one in words for other in words if one < other and len(bits_of(one ^ other)) == 1]


def lots_by_all(words):
    """The lots, by joining lots as long as two of them have neighbours."""
    lots = [{word} for word in words]
    for one, other in pairs_by_all(words):
        joined = [lot for lot in lots if one in lot or other in lot]
        lots = [lot for lot in lots if lot not in joined] + [set().union(*joined)]
    return tuple(sorted(tuple(sorted(lot)) for lot in lots))


class Flips(Case):
    def test_flipped(self):
        die = dice(1)
        for _ in range(200):
            word, bits = die.randrange(2 ** 12), die.sample(range(14), die.randrange(8))
            wanted = sum(2 ** bit for bit in range(14) if (word // 2 ** bit % 2 == 1) != (bit in bits))
            self.same(flipped(word, bits), wanted)
            self.same(flipped(word=word, bits=tuple(bits)), wanted)
            self.same(flipped(flipped(word, bits), bits), word)
        self.same(flipped(0, []), 0)
        self.same(flipped(2 ** 400, ()), 2 ** 400)

    def test_flipped_at_the_edges(self):
        self.same(flipped(0, [20000]), 2 ** 20000)
        self.same(flipped(2 ** 20000, [20000, 0]), 1)
        self.fails(BadBits("bits"), flipped, 0, [20001])
        with self.in_short():
            self.same(flipped(2 ** 20001 - 1, list(range(20001))), 0)
            self.same(flipped(0, list(range(20001))), 2 ** 20001 - 1)

    def test_flipped_copies(self):
        bits = [2, 0]
        flipped(5, bits)
        self.same(bits, [2, 0])

    def test_differing(self):
        die = dice(2)
        for _ in range(200):
            one, other = die.randrange(2 ** 12), die.randrange(2 ** 14)
            wanted = tuple(bit for bit in range(14) if one // 2 ** bit % 2 != other // 2 ** bit % 2)
            self.same(differing(one, other), wanted)
            self.same(differing(other=other, one=one), wanted)
            self.same(flipped(one, differing(one, other)), other)
        self.same(differing(0, 0), ())
        self.same(differing(2 ** 20000, 0), (20000,))
        with self.in_short():
            self.same(differing(2 ** 20001 - 1, 0), tuple(range(20001)))
            self.same(differing(2 ** 20000 + 1, 2 ** 20000 + 8), (0, 3))

    def test_neighbours_of(self):
        for many in range(1, 7):
            for word in range(2 ** many):
                told = neighbours_of(word, many)
                self.assertEqual(sorted(told), [other for other in range(2 ** many)
                                                if len(bits_of(word ^ other)) == 1])
                self.same([differing(word, other) for other in told], [(bit,) for bit in range(many)])
        self.same(neighbours_of(word=0, many=1), (1,))
        self.same(neighbours_of(1, 1), (0,))
        self.same(neighbours_of(0, 400), tuple(2 ** bit for bit in range(400)))
        self.same(neighbours_of(2 ** 400 - 1, 400)[399], 2 ** 399 - 1)

    def test_neighbours_of_fails(self):
        for many in NO_INTEGERS + (0, -1, 401, 2 ** 70):
            self.fails(BadNumber("many"), neighbours_of, 0, many)
            self.fails(BadNumber("many"), neighbours_of, 2 ** 500, many)
        for word, many in ((2, 1), (8, 3), (2 ** 400, 400), (2 ** 900, 1), (2 ** 401 - 1, 400)):
            self.fails(Misfit("word"), neighbours_of, word, many)

    def test_the_first_wrong_argument_is_told(self):
        for word in NO_WORDS:
            self.fails(BadWord("word"), flipped, word, [1])
            self.fails(BadWord("word"), flipped, word, None)
            self.fails(BadWord("one"), differing, word, None)
            self.fails(BadWord("other"), differing, 0, word)
            self.fails(BadWord("word"), neighbours_of, word, 3)
            self.fails(BadWord("word"), neighbours_of, word, 0)
        for bits in BAD_LOTS:
            self.fails(BadBits("bits"), flipped, 5, bits)


class Counts(Case):
    def test_ones_in(self):
        for number in range(300):
            self.same(ones_in(number), len(bits_of(number)))
        self.same(ones_in(number=2 ** 400 - 1), 400)
        self.same(ones_in(2 ** 401 - 1), 401)
        self.same(ones_in(2 ** 401), 1)

    def test_most_pairs(self):
        told = 0
        for many in range(700):
            self.same(most_pairs(many), told)
            told += len(bits_of(many))
        self.same(most_pairs(many=8), 12)

    def test_most_pairs_at_the_edges(self):
        with self.in_short():
            for many in (2 ** 400, 2 ** 400 - 1, 2 ** 401 - 1, 3 ** 252, 2 ** 300 + 2 ** 299 + 1, 10 ** 120):
                half = many // 2
                self.same(most_pairs(many), most_pairs(many - half) + most_pairs(half) + half)
                self.same(most_pairs(many + 1) - most_pairs(many), len(bits_of(many)))
            for bits in (1, 2, 64, 399, 400, 401):
                self.same(most_pairs(2 ** bits), bits * 2 ** bits // 2)

    def test_most_pairs_is_the_most(self):
        die = dice(3)
        for _ in range(300):
            words = die.sample(range(32), die.randrange(20))
            self.assertLessEqual(pairs_among(words), most_pairs(len(words)))
        for many in range(40):
            self.same(pairs_among(list(range(many))), most_pairs(many))

    def test_fails(self):
        for value in NO_WORDS:
            self.fails(BadNumber("number"), ones_in, value)
            self.fails(BadNumber("many"), most_pairs, value)
            self.fails(BadNumber("number"), gray, value)
            self.fails(BadWord("word"), place_of, value)


class Lots(Case):
    def test_all_words_of_three_bits(self):
        for chosen in range(256):
            words = bits_of(chosen)
            self.same(pairs_among(words), len(pairs_by_all(words)))
            self.same(lots_of(words), lots_by_all(words))

    def test_any_order(self):
        die = dice(4)
        for _ in range(100):
            words = die.sample(range(128), die.randrange(60))
            wanted = lots_by_all(words)
            self.same(pairs_among(words), len(pairs_by_all(words)))
            self.same(lots_of(words), wanted)
            die.shuffle(words)
            self.same(lots_of(words=tuple(words)), wanted)
            self.same(pairs_among(words=tuple(words)), len(pairs_by_all(words)))

    def test_few(self):
        self.same(lots_of([]), ())
        self.same(lots_of(()), ())
        self.same(pairs_among(()), 0)
        self.same(lots_of([9]), ((9,),))
        self.same(lots_of([1, 2]), ((1,), (2,)))
        self.same(lots_of([2, 0, 1]), ((0, 1, 2),))

    def test_long_words(self):
        far = 2 ** 400
        words = [far + 1, far, 0, 2 ** 399, far + 2 ** 399, 7]
        self.same(pairs_among(words), 5)
        self.same(lots_of(words), ((0, 2 ** 399, far, far + 1, far + 2 ** 399), (7,)))

    def test_most_words(self):
        for words in (list(range(1024)), [gray(number) for number in range(1024)],
                      [2 ** 401 - 1 - word for word in range(1024)], [word * 2 ** 391 for word in range(1024)]):
            with self.in_short():
                self.same(pairs_among(words), 5120)
                self.same(lots_of(words), (tuple(sorted(words)),))
        with self.in_short():
            words = [word for word in range(2048) if len(bits_of(word)) % 2]
            self.same(pairs_among(words), 0)
            self.same(lots_of(words), tuple((word,) for word in words))

    def test_too_many(self):
        for words in (list(range(1025)), tuple(range(2 ** 300, 2 ** 300 + 1025)), list(range(5000))):
            self.fails(TooMany("words", 1024), pairs_among, words)
            self.fails(TooMany("words", 1024), lots_of, words)

    def test_fails(self):
        for words in BAD_LISTS:
            self.fails(BadWord("words"), pairs_among, words)
            self.fails(BadWord("words"), lots_of, words)

    def test_what_is_passed_stays(self):
        words = [3, 1, 0]
        told = lots_of(words)
        pairs_among(words)
        self.same(words, [3, 1, 0])
        words.append(2)
        self.same(told, ((0, 1, 3),))


class Gray(Case):
    def test_each_bit_as_told(self):
        for number in range(600):
            word = gray(number)
            wanted = sum(2 ** bit for bit in range(12) if number // 2 ** bit % 2 != number // 2 ** (bit + 1) % 2)
            self.same(word, wanted)
            self.same(place_of(word), number)

    def test_row_of_neighbours(self):
        for bits in range(1, 9):
            row = [gray(number=number) for number in range(2 ** bits)]
            self.assertEqual(sorted(row), list(range(2 ** bits)))
            self.assertTrue(all(len(bits_of(row[at] ^ row[at - 1])) == 1 for at in range(2 ** bits)))
            self.same(row[-1], 2 ** (bits - 1))

    def test_long(self):
        with self.in_short():
            for number in (2 ** 400, 2 ** 400 - 1, 2 ** 401 - 1, 3 ** 252, 2 ** 257 + 2 ** 128 - 5):
                word = gray(number)
                self.same(word, sum(2 ** bit for bit in range(402)
                                    if number // 2 ** bit % 2 != number // 2 ** (bit + 1) % 2))
                self.same(place_of(word=word), number)


if __name__ == "__main__":
    unittest.main()
