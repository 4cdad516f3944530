import re
import unittest

from oneflip.errors import BadBook, BadDeed, BadNumber, BadText, Misfit, NoName, Twice
from oneflip.lines import clauses_of, reckoned
from oneflip.names import is_name
from tests.reckon import any_line, line_worths
from tests.tools import NO_INTEGERS, NO_LISTS, NO_STRINGS, Case, Odd, dice, error_of, texts_bent

NAMES = ["tin", "jar", "box"]
NAME, NUMBER = "[a-z0-9]{1,12}", "(0|[1-9][0-9]{0,139})"
CLAUSE = f"((put|add|take|need) {NAME} {NUMBER}|move {NAME} {NAME} {NUMBER}|(swap|copy) {NAME} {NAME})"
LINE = re.compile(f"{CLAUSE}( , {CLAUSE})*")
# What can stand behind any items that can stand: by it an item is told that cannot.
ENDS = ("", " 1", " a", " a 1", " a b", " a b 1", " put a 1")
SIGNS = "abcdefghijklmnopqrstuvwxyz0123456789"
NO_NAMES = ("", "thirteensigns", "Tin", "ti-n", "t n", " tin", "tin ", "tin\n", "t\u00edn", "\u0663", "\u00b2", "_", "t.n",
            ",", "a" * 13, "a" * 20000)


def wrong_item(line):
    """The first item that cannot stand, by trying what can follow; None for a line."""
    items = line.split(" ")
    for at in range(len(items)):
        ahead = " ".join(items[:at + 1])
        if not any(LINE.fullmatch(ahead + end) for end in ENDS):
            return at
    return None if LINE.fullmatch(line) else len(items)


class Names(Case):
    def test_signs(self):
        for sign in map(chr, range(0x250)):
            self.same(is_name(sign), sign in SIGNS)
            self.same(is_name("a" + sign + "b"), sign in SIGNS)
        for many in range(1, 15):
            self.same(is_name("z" * many), many <= 12)
        for value in NO_STRINGS + NO_NAMES:
            self.same(is_name(value), False)


class Clauses(Case):
    def test_each_kind(self):
        for line, wanted in (
                ("put tin 0", (("put", "tin", 0),)), ("add a 1", (("add", "a", 1),)),
                ("take 0 0", (("take", "0", 0),)), ("move tin jar 8", (("move", "tin", "jar", 8),)),
                ("swap tin tin", (("swap", "tin", "tin"),)), ("copy put need", (("copy", "put", "need"),)),
                ("need abcdefghijkl 7", (("need", "abcdefghijkl", 7),)),
                ("put 5 5 , move 1 2 3", (("put", "5", 5), ("move", "1", "2", 3))),
                ("swap swap swap , swap a b , need a 1", (("swap", "swap", "swap"), ("swap", "a", "b"), ("need", "a", 1))),
                ("put a " + "9" * 140, (("put", "a", 10 ** 140 - 1),))):
            self.same(clauses_of(line=line), wanted)

    def test_some_lines(self):
        die = dice(231)
        for _ in range(300):
            line = any_line(die, ["a", "b7", "x" * 12], 48)
            told = clauses_of(line)
            self.same(" , ".join(" ".join(str(item) for item in clause) for clause in told), line)
            for clause in told:
                self.same([type(item) for item in clause],
                          [str] * len(clause) if clause[0] in ("swap", "copy") else [str] * (len(clause) - 1) + [int])

    def test_bent_lines(self):
        lines = ("put tin 40", "move tin jar 8 , swap tin jar", "copy a b , need a 0", "take x 1 , add y 2 , put z 3")
        seen = 0
        for line in lines:
            for bent, _ in texts_bent(line):
                at = wrong_item(bent)
                if at is None:
                    clauses_of(bent)
                else:
                    self.fails(BadText(0, at), clauses_of, bent)
                    self.fails(BadText(0, at), reckoned, bent, None, None, None)
                    seen += 1
        self.assertGreater(seen, 500)

    def test_items_left_out_and_doubled(self):
        die = dice(232)
        seen = 0
        for _ in range(150):
            items = any_line(die, NAMES, 6).split(" ")
            for at in range(len(items)):
                for told in (items[:at] + items[at + 1:], items[:at + 1] + items[at:], items[:at] + [""] + items[at:],
                             items[:at], items[:at] + [","] + items[at:], items[:at] + ["7"] + items[at + 1:],
                             items[:at] + ["swap"] + items[at + 1:], items[:at] + [items[at].upper()] + items[at + 1:]):
                    line = " ".join(told)
                    wrong = wrong_item(line)
                    error = error_of(clauses_of, line)
                    self.same(None if error is None else (type(error), error.line, error.item),
                              None if wrong is None else (BadText, 0, wrong))
                    seen += wrong is not None
        self.assertGreater(seen, 1000)

    def test_told_ones(self):
        for line, at in (("", 0), (" ", 0), ("put", 1), ("put ", 1), ("put tin", 2), ("put tin ", 2), ("put tin 05", 2),
                         ("put tin 5 ", 3), ("put tin 5 ,", 4), (", put tin 5", 0), ("put tin 5 , ,", 4),
                         ("put tin 5 put tin 5", 3), ("put tin -1", 2), ("put tin +1", 2), ("put tin five", 2),
                         ("put Tin 5", 1), ("put tin 5,", 2), ("PUT tin 5", 0), ("drop tin 5", 0), ("move tin 5", 3),
                         ("move tin jar", 3), ("swap tin", 2), ("swap tin jar 5", 3), ("put  tin 5", 1),
                         ("put abcdefghijklm 5", 1), ("put tin " + "1" * 141, 2), ("put tin " + "1" * 5000, 2),
                         ("put tin 5 , put tin 5 , put", 9), ("put tin \u0663", 2), ("put tin 5\n", 2)):
            self.same(wrong_item(line), at)
            self.fails(BadText(0, at), clauses_of, line)

    def test_values_of_other_kinds(self):
        for value in NO_STRINGS + (("put", "tin", 5), [("put", "tin", 5)]):
            self.fails(BadText(0, 0), clauses_of, value)
            self.fails(BadText(0, 0), reckoned, value, None, None, None)

    def test_long_lines(self):
        line = " , ".join(["copy a b"] * 1800)
        with self.in_short():
            self.same(clauses_of(line), (("copy", "a", "b"),) * 1800)
            self.same(reckoned(line, ["a", "b"], 3, [5, 6]), (5, 5))
            self.fails(BadText(0, 7200), clauses_of, line + " ,")
            self.fails(BadText(0, 0), clauses_of, "a" * 20000)


class Reckoned(Case):
    def test_some_lines(self):
        die = dice(233)
        seen = [0, 0]
        for _ in range(3000):
            size = die.choice((1, 2, 3, 5, 6, 48))
            names = die.sample(["a", "b", "tin", "x9", "0"], die.randrange(1, 6))
            worths = [die.randrange(2 ** size) for _ in names]
            line = any_line(die, names, size)
            wanted = line_worths(line, names, size, worths)
            if wanted is None:
                self.fails(Misfit("value"), reckoned, line, names, size, worths)
            else:
                self.same(reckoned(line=line, names=names, size=size, worths=worths), wanted)
                self.same(reckoned(line, tuple(names), size, tuple(worths)), wanted)
            seen[wanted is None] += 1
        self.assertGreater(min(seen), 300)

    def test_edges(self):
        for size in (1, 6, 48):
            top = 2 ** size - 1
            for line, worths, wanted in (
                    (f"put tin {top}", [0, 0, 0], (top, 0, 0)), (f"put tin {top + 1}", [0, 0, 0], None),
                    (f"add tin {top}", [0, 0, 0], (top, 0, 0)), (f"add tin {top}", [1, 0, 0], None),
                    ("add tin 1", [top, 0, 0], None), (f"take tin {top}", [top, 0, 0], (0, 0, 0)),
                    ("take tin 1", [0, top, top], None), ("take tin 0", [0, 0, 0], (0, 0, 0)),
                    (f"move tin jar {top}", [top, 0, 1], (0, top, 1)), (f"move tin jar {top}", [top, 1, 0], None),
                    ("move tin jar 1", [0, 0, 0], None), ("move tin jar 0", [top, top, 0], (top, top, 0)),
                    (f"move tin tin {top}", [top, 0, 0], (top, 0, 0)), ("move tin tin 1", [0, 1, 1], None),
                    (f"move tin tin {top + 1}", [top, 0, 0], None), ("swap tin tin", [1, 0, 0], (1, 0, 0)),
                    ("copy tin tin", [1, 0, 0], (1, 0, 0)), ("swap box tin", [1, 0, 0], (0, 0, 1)),
                    ("copy tin box", [1, 0, 0], (1, 0, 1)), (f"need tin {top}", [top, 0, 0], (top, 0, 0)),
                    (f"need tin {top + 1}", [top, 0, 0], None), ("need tin 1", [0, 1, 1], None),
                    ("need tin 0", [0, 0, 0], (0, 0, 0)), (f"add tin {10 ** 140 - 1}", [0, 0, 0], None),
                    (f"need tin {10 ** 140 - 1}", [0, 0, 0], None), (f"take tin {10 ** 140 - 1}", [top, 0, 0], None)):
                self.same(line_worths(line, NAMES, size, worths), wanted)
                if wanted is None:
                    self.fails(Misfit("value"), reckoned, line, NAMES, size, worths)
                else:
                    self.same(reckoned(line, NAMES, size, worths), wanted)

    def test_on_the_way_and_at_the_end(self):
        for line in ("add jar 30 , take jar 30", "take tin 10 , add tin 10", "put tin 32 , put tin 0",
                     "need box 1 , put box 1", "put box 1 , need box 2 , put box 2", "move box tin 1 , put box 0"):
            self.fails(Misfit("value"), reckoned, line, NAMES, 5, [9, 7, 0])
        for line, wanted in (("take jar 7 , add jar 31", (9, 31, 0)), ("put box 1 , need box 1", (9, 7, 1)),
                             ("swap tin box , need box 9 , copy box jar", (0, 9, 9)),
                             ("move tin jar 9 , move jar box 16", (0, 0, 16))):
            self.same(reckoned(line, NAMES, 5, [9, 7, 0]), wanted)

    def test_names(self):
        for value in NO_LISTS + ([], (), ["tin", None], ["tin", 1], [True], [["tin"]], "tin", ["a"] * 33,
                                 [f"n{at}" for at in range(33)], ["a", Odd()], {"tin": 1}) + tuple(
                [["tin", name] for name in NO_NAMES]) + tuple((name,) for name in NO_NAMES):
            self.fails(BadBook("names"), reckoned, "put tin 0", value, None, None)
            self.fails(BadBook("names"), reckoned, "put tin 0", value, 6, [0, 0])
        for names, first in ((["a", "b", "a"], "a"), (["a", "b", "b", "a"], "b"), (("x", "x", "x"), "x"),
                             (["a"] * 32, "a"), ([f"n{at}" for at in range(31)] + ["n0"], "n0")):
            self.fails(Twice(first), reckoned, "put tin 0", names, None, None)
            self.fails(Twice(first), reckoned, "put b 0", names, 0, [])
        many = [f"n{at}" for at in range(32)]
        self.same(reckoned("put n31 1", many, 1, [0] * 32), (0,) * 31 + (1,))
        self.same(reckoned("put a 1", ["a"], 1, [0]), (1,))

    def test_sizes_and_worths(self):
        for size in NO_INTEGERS + (0, -1, 49, 2 ** 70):
            self.fails(BadNumber("size"), reckoned, "put cup 0", NAMES, size, None)
            self.fails(BadNumber("size"), reckoned, "put tin 0", NAMES, size, [0, 0, 0])
        for worths in NO_LISTS + ([], [0, 0], [0, 0, 0, 0], [0, 0, 64], [0, -1, 0], [True, 0, 0], [0, False, 0],
                                  [0, 0, None], [0, 1.0, 0], ["0", 0, 0], "000", [[0], 0, 0], [Odd(), 0, 0], [2 ** 70] * 3):
            self.fails(BadDeed("worths"), reckoned, "put cup 99", NAMES, 6, worths)
            self.fails(BadDeed("worths"), reckoned, "put tin 0", NAMES, 6, worths)

    def test_names_that_are_none_there(self):
        for line, name in (("put cup 1 , take tin 99", "cup"), ("take tin 99 , put cup 1", "cup"),
                           ("swap tin cup , put pan 1", "cup"), ("copy cup pan", "cup"), ("move tin pan 99", "pan"),
                           ("need tin 99 , need tins 1", "tins"), ("put put 1", "put"), ("put 1 1", "1")):
            self.fails(NoName(name), reckoned, line, NAMES, 6, [40, 7, 0])
        # The words of clauses are names like others.
        self.same(reckoned("put put 1 , swap put take", ["put", "take"], 2, [0, 3]), (3, 1))

    def test_what_is_passed_stays(self):
        names, worths = ["tin", "jar"], [1, 2]
        told = reckoned("swap tin jar", names, 2, worths)
        self.same((names, worths), (["tin", "jar"], [1, 2]))
        worths[0] = 3
        self.same(told, (2, 1))


if __name__ == "__main__":
    unittest.main()
