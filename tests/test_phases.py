import unittest

from oneflip.errors import BadBits, BadNumber, BadPhases, BadText, BadWord, Misfit, TooMany
from oneflip.phases import cut_words, landed, phases_read, phases_text
from tests.reckon import lots, with_flips
from tests.tools import BAD_LOTS, BAD_PHASES, NO_INTEGERS, NO_STRINGS, Case, dice, texts_bent


def any_phases(die, bits=7, many=5, most=5):
    return [die.sample(range(bits), die.randrange(1, most + 1)) for _ in range(die.randrange(many))]


def behind(word, phases):
    for phase in phases:
        word = with_flips(word, phase)
    return word


class Texts(Case):
    def test_text(self):
        for phases, text in (((), "-"), (((0,),), "0"), (((20000,),), "20000"), (((0, 20000),), "0 20000"),
                             (((3, 4), (9,)), "3 4 | 9"), (((5,), (5,), (0, 5)), "5 | 5 | 0 5")):
            self.same(phases_text(phases=phases), text)
            self.same(phases_text([list(reversed(phase)) for phase in phases]), text)
            self.same(phases_read(text=text), phases)

    def test_back_and_forth(self):
        die = dice(141)
        for _ in range(100):
            phases = any_phases(die, 20001, 8, 9)
            self.same(phases_read(phases_text(phases)), tuple(tuple(sorted(phase)) for phase in phases))

    def test_no_strings(self):
        for value in NO_STRINGS + ((), [], [[1]]):
            self.fails(BadText(0, 0), phases_read, value)

    def test_bent(self):
        for text in ("3 4 | 9", "20000 | 20000", "1 2 3 | 0 | 7 8"):
            for bent, item in texts_bent(text):
                # A bar may stand behind a bit, where the phase behind it then tells whether it does.
                if bent.split(" ")[item:item + 1] != ["|"]:
                    self.fails(BadText(0, item), phases_read, bent)
            for at in range(1, len(text.split(" "))):
                left = text.split(" ")[:at]
                if left[-1] == "|":
                    self.fails(BadText(0, at), phases_read, " ".join(left))
                else:
                    self.same(phases_text(phases_read(" ".join(left))), " ".join(left))

    def test_items_that_cannot_stand(self):
        for text, item in (("", 0), ("|", 0), ("| 3", 0), ("3 |", 2), ("3 | |", 2), ("3 | | 4", 2), ("3 3", 1), ("4 3", 1),
                           ("3 5 4", 2), ("3 | 4 4", 3), ("20001", 0), ("0 20001", 1), ("20000 20001", 1),
                           ("20000 20000", 1), ("-1", 0), ("3 -1", 1), ("- 3", 1), ("- -", 1), ("- |", 1), ("-  ", 1),
                           ("3 -", 1), ("3 | -", 2), ("- | 3", 1), (" -", 0), ("--", 0), ("3 || 4", 1), ("3|4", 0),
                           ("3 , 4", 1), ("3 / 4", 1), ("3 | 4 |", 4), ("1 2 1", 2), ("3 | ", 2), ("3 ", 1),
                           ("3 4 | 3 4 3 | x", 5)):
            self.fails(BadText(0, item), phases_read, text)
        self.same(phases_read("5 | 4 | 3"), ((5,), (4,), (3,)))

    def test_long(self):
        text = " | ".join(str(bit) for bit in range(2500))
        with self.in_short():
            self.same(phases_text(phases_read(text)), text)

    def test_fails(self):
        for phases in BAD_PHASES:
            self.fails(BadPhases("phases"), phases_text, phases)


class Landed(Case):
    def test_each_cut(self):
        die = dice(142)
        for _ in range(60):
            phases, word = any_phases(die), die.randrange(2 ** 9)
            for many in range(len(phases) + 1):
                flips = sorted(phases[many]) if many < len(phases) else []
                for lot in lots(range(len(flips))):
                    wanted = with_flips(behind(word, phases[:many]), [flips[number] for number in lot])
                    self.same(landed(word=word, phases=phases, many=many, lot=lot), wanted)
                    self.same(landed(word, tuple(tuple(phase) for phase in phases), many, list(lot)[::-1]), wanted)

    def test_edges(self):
        self.same(landed(5, [], 0, []), 5)
        self.same(landed(5, [[1], [2]], 2, ()), 3)
        self.same(landed(0, [[20000, 0]], 0, [1]), 2 ** 20000)
        self.same(landed(2 ** 20000, [[20000, 0]], 0, [0, 1]), 1)
        self.same(landed(0, [[9, 4, 7]], 0, [0, 2]), 2 ** 9 + 2 ** 4)
        with self.in_short():
            self.same(landed(2 ** 20000, [list(range(300)), list(range(300))], 2, []), 2 ** 20000)
            self.same(landed(0, [[bit] for bit in range(600)], 599, [0]), 2 ** 600 - 1)

    def test_fails(self):
        for word in NO_INTEGERS + (-1, -2 ** 70):
            self.fails(BadWord("word"), landed, word, None, None, None)
        for phases in BAD_PHASES:
            self.fails(BadPhases("phases"), landed, 0, phases, None, None)
        for many in NO_INTEGERS + (-1, 3, 4, 2 ** 70):
            self.fails(BadNumber("many"), landed, 0, [[0], [1, 2]], many, None)
        self.fails(BadNumber("many"), landed, 0, [], 1, [])
        for lot in BAD_LOTS:
            for many in (0, 1, 2):
                self.fails(BadBits("lot"), landed, 0, [[0], [1, 2]], many, lot)
        for many, number in ((0, 1), (1, 2), (2, 0), (2, 20000), (0, 20000)):
            self.fails(Misfit("lot"), landed, 0, [[0], [1, 2]], many, [number])
            self.fails(Misfit("lot"), landed, 0, [[0], [2, 1]], many, (0, number) if number else (1, 0))
        self.fails(Misfit("lot"), landed, 0, [], 0, [0])


class Cuts(Case):
    def test_small(self):
        die = dice(143)
        for _ in range(80):
            phases, word = any_phases(die), die.randrange(2 ** 9)
            lie = {word}
            for many, phase in enumerate(phases):
                lie |= {with_flips(behind(word, phases[:many]), lot) for lot in lots(phase)}
            self.same(cut_words(word=word, phases=phases), tuple(sorted(lie)))
            self.same(cut_words(word, tuple(tuple(phase) for phase in phases)), tuple(sorted(lie)))

    def test_edges(self):
        self.same(cut_words(6, []), (6,))
        self.same(cut_words(6, [[1]]), (4, 6))
        self.same(cut_words(6, [[1], [1]]), (4, 6))
        self.same(cut_words(0, [[20000]]), (0, 2 ** 20000))
        self.same(cut_words(2 ** 20000, [[20000], [0]]), (0, 1, 2 ** 20000))

    def test_ten_and_eleven_flips(self):
        self.same(cut_words(0, [list(range(10))]), tuple(range(1024)))
        self.fails(TooMany("flips", 10), cut_words, 0, [list(range(11))])
        self.fails(TooMany("flips", 10), cut_words, 0, [[0], list(range(10)), list(range(5, 16))])
        self.same(len(cut_words(0, [[0], list(range(10)), list(range(5, 15))])), 1024 + 1024 - 32)

    def test_the_greatest(self):
        with self.in_short():
            told = cut_words(0, [list(range(10 * at, 10 * at + 10)) for at in range(60)])
            self.same(len(told), 60 * 1023 + 1)
            self.same((told[1], told[-1]), (1, 2 ** 600 - 1))
            self.same(list(told), sorted(set(told)))
        with self.in_short():
            self.same(len(cut_words(2 ** 20000, [[bit * 30] for bit in range(600)])), 601)
        # All bits 61 apart, where Python's hashes of many words are alike.
        with self.in_short():
            phases = [[61 * (10 * at + bit) for bit in range(10)] for at in range(30)]
            self.same(len(cut_words(0, phases + phases)), 30 * 1023 * 2)

    def test_fails(self):
        for word in NO_INTEGERS + (-1, -2 ** 70):
            self.fails(BadWord("word"), cut_words, word, None)
        for phases in BAD_PHASES:
            self.fails(BadPhases("phases"), cut_words, 0, phases)

    def test_what_is_passed_stays(self):
        phases, lot = [[2, 0], [1]], [1, 0]
        phases_text(phases)
        cut_words(0, phases)
        landed(0, phases, 0, lot)
        self.same((phases, lot), ([[2, 0], [1]], [1, 0]))


if __name__ == "__main__":
    unittest.main()
