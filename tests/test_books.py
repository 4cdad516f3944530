import unittest
from copy import deepcopy

from oneflip.books import Book
from oneflip.errors import BadBits, BadBook, BadNumber, BadText, Misfit, NoName, TooMany, Twice
from tests.reckon import any_line, line_worths, lots, till_plan, with_flips
from tests.test_lines import NAMES, NO_NAMES
from tests.tools import BAD_LOTS, NO_INTEGERS, NO_LISTS, NO_STRINGS, Case, Odd, dice, error_of

FOUR = ["tin", "jar", "box", "pot"]
FIVE = FOUR + ["cup"]


def told_of(book):
    """All that a Book tells of itself."""
    return book.size, book.names, book.worths, book.flips, book.story()


class Shelf:
    """A book in the open: a list of worths, the word of its store, its flips and its story."""

    def __init__(self, size, names):
        self.size, self.names, self.worths = size, names, (0,) * len(names)
        self.word, self.flips, self.story = 0, 0, []

    def deed_of(self, line):
        """The deed of a line, None if it fails."""
        behind = line_worths(line, self.names, self.size, self.worths)
        return None if behind is None else tuple(
            (cell, new) for cell, (old, new) in enumerate(zip(self.worths, behind)) if old != new)

    def behind(self, deed):
        return tuple(dict(deed).get(cell, worth) for cell, worth in enumerate(self.worths))

    def plan(self, deed=None):
        many = len(self.names)
        return till_plan(many, self.size, min(many, 4), self.word, deed) if deed != () else ()

    def flip(self, bits):
        self.word = with_flips(self.word, bits)
        self.flips += len(bits)

    def tell(self, line):
        deed = self.deed_of(line)
        self.flip([bit for phase in self.plan(deed) for bit in phase])
        self.worths = self.behind(deed)
        self.story.append((line, "done"))

    def pull(self, line, phase, lot):
        deed = self.deed_of(line)
        plan = self.plan(deed)
        flips = [bit for ahead in plan[:phase] for bit in ahead] + [plan[phase][number] for number in lot]
        opened = (len(self.names) * self.size,)
        self.flip(flips)
        came = "behind" if opened[0] in flips else "before"
        self.flip([bit for mending in self.plan() for bit in mending])
        if came == "behind":
            self.worths = self.behind(deed)
        self.story.append((line, f"cut behind {len(flips)} flips: {came}"))
        return came

    def told(self):
        return self.size, tuple(self.names), self.worths, self.flips, tuple(self.story)


class Made(Case):
    def test_begin(self):
        for size in (1, 6, 48):
            for names in (["a"], NAMES, tuple(FOUR), FIVE, [f"n{at}" for at in range(32)], ["z" * 12, "0"]):
                book = Book(names=names, size=size)
                self.same(told_of(book), (size, tuple(names), (0,) * len(names), 0, ()))

    def test_fails(self):
        for size in NO_INTEGERS + (0, -1, 49, 2 ** 70):
            self.fails(BadNumber("size"), Book, size, NAMES)
            self.fails(BadNumber("size"), Book, size, None)
        for names in NO_LISTS + ([], (), ["tin", None], [True], [["tin"]], "tin", ["a"] * 33, ["a", Odd()],
                                 [f"n{at}" for at in range(33)]) + tuple(["tin", name] for name in NO_NAMES):
            self.fails(BadBook("names"), Book, 6, names)
        for names, first in ((["a", "b", "a"], "a"), (["a", "b", "b", "a"], "b"), (["c"] * 32, "c")):
            self.fails(Twice(first), Book, 6, names)

    def test_what_is_passed_is_copied(self):
        names = ["a", "b"]
        book = Book(3, names)
        names[0] = "c"
        names.append("d")
        self.same(book.names, ("a", "b"))
        lot = [0]
        book.pull("put a 1", 1, lot)
        lot[0] = 5
        self.same(book.story(), (("put a 1", "cut behind 3 flips: behind"),))

    def test_methods_are_its_own(self):
        for name in ("__init__", "tell", "pull", "worth", "sum_of", "story"):
            self.assertIn(name, vars(Book))


class Told(Case):
    def test_against_a_list_of_worths(self):
        die = dice(241)
        seen = {"done": 0, "failed": 0, "many": 0, "pulled": 0}
        for size, names in ((1, ["a"]), (3, ["a", "b"]), (5, NAMES), (6, FOUR), (6, FIVE), (4, FIVE + ["pan"]),
                            (48, [f"n{at}" for at in range(32)])):
            book, shelf = Book(size, names), Shelf(size, names)
            for _ in range(60):
                line = any_line(die, names[:7], size, die.choice((1, 2, 3, 6)))
                if len(names) > 4 and die.randrange(3) == 0:
                    line = " , ".join(f"put {name} {die.randrange(2 ** size)}" for name in names[:die.randrange(4, 8)])
                deed = shelf.deed_of(line)
                if deed is None:
                    self.fails(Misfit("value"), book.tell, line)
                    seen["failed"] += 1
                elif len(deed) > min(4, len(names)):
                    self.fails(TooMany("cells", 4), book.tell, line)
                    self.fails(TooMany("cells", 4), book.pull, line, 0, [])
                    seen["many"] += 1
                elif deed and die.randrange(2):
                    plan = shelf.plan(deed)
                    phase = die.randrange(len(plan))
                    lot = die.sample(range(len(plan[phase])), die.randrange(len(plan[phase]) + 1))
                    self.same(book.pull(line=line, phase=phase, lot=lot), shelf.pull(line, phase, lot))
                    seen["pulled"] += 1
                else:
                    shelf.tell(line)
                    self.same(book.tell(line=line), deed)
                    seen["done"] += 1
                self.same(told_of(book), shelf.told())
        self.assertGreater(min(seen.values()), 20)

    def test_lines_that_change_no_worth(self):
        book = Book(6, NAMES)
        for line in ("need tin 0", "put tin 0 , add jar 0", "add tin 5 , take tin 5", "swap tin jar", "copy tin box",
                     "move tin tin 0", "put tin 3 , put tin 0", "put jar 9 , swap jar box , take box 9"):
            self.same(book.tell(line), ())
        self.same((book.flips, book.worths, len(book.story())), (0, (0, 0, 0), 8))
        for phase in (0, 1, 5, 2 ** 70):
            for lot in ([], [0]):
                self.fails(Misfit("phase"), book.pull, "need tin 0", phase, lot)

    def test_four_cells_and_five(self):
        line = " , ".join(f"put {name} {at + 1}" for at, name in enumerate(FIVE))
        book = Book(6, FIVE)
        self.fails(TooMany("cells", 4), book.tell, line)
        self.same(told_of(book), told_of(Book(6, FIVE)))
        self.same(book.tell(line.replace("put jar 2", "put jar 0")), ((0, 1), (2, 3), (3, 4), (4, 5)))
        self.same(book.tell(line), ((1, 2),))
        self.same(book.worths, (1, 2, 3, 4, 5))
        four = Book(6, FOUR)
        self.same(four.tell(line.rpartition(" , ")[0]), ((0, 1), (1, 2), (2, 3), (3, 4)))
        one = Book(6, ["tin"])
        self.same(one.tell("put tin 63"), ((0, 63),))
        # It is what the line leaves that counts, not what it changes on the way.
        self.same(book.tell(line + " , put tin 9 , add tin 1 , put cup 0"), ((0, 10), (4, 0)))

    def test_all_cuts(self):
        for first, line in (("put tin 2 , put jar 1", "swap tin jar , put box 3"), ("put tin 0", "put box 1"),
                            ("put box 3", "move box tin 2")):
            shelf = Shelf(2, NAMES)
            shelf.tell(first)
            for phase, bits in enumerate(shelf.plan(shelf.deed_of(line))):
                for lot in lots(range(len(bits))):
                    book, other = Book(2, NAMES), Shelf(2, NAMES)
                    for told in (book, other):
                        told.tell(first)
                    self.same(book.pull(line, phase, lot[::-1]), other.pull(line, phase, lot))
                    self.same(told_of(book), other.told())
                    for told in (book, other):
                        told.tell("copy tin box , put jar 0")
                    self.same(told_of(book), other.told())

    def test_the_story_leaves_the_worths(self):
        die = dice(242)
        book = Book(4, FIVE)
        for _ in range(120):
            line = any_line(die, FIVE, 4, 1)
            call = die.choice((book.tell, lambda told: book.pull(told, die.randrange(5), die.choice(([], [0])))))
            error_of(call, line)
        worths = (0,) * 5
        for line, came in book.story():
            self.assertRegex(came, "^(done|cut behind (0|[1-9][0-9]*) flips: (before|behind))$")
            if not came.endswith("before"):
                worths = line_worths(line, FIVE, 4, worths)
        self.assertGreater(len({came[:3] + came[-6:] for _, came in book.story()}), 2)
        self.same(book.worths, worths)

    def test_worths_and_sums(self):
        book = Book(6, FIVE)
        book.tell("put tin 40 , put jar 7 , put cup 63")
        self.same([book.worth(name=name) for name in FIVE], [40, 7, 0, 0, 63])
        self.same([book.sum_of(names=[]), book.sum_of(()), book.sum_of(["tin"] * 3 + ["cup"]), book.sum_of(tuple(FIVE))],
                  [0, 0, 183, 110])
        before = told_of(book)
        for value in NO_STRINGS + NO_NAMES + ("pan", "ti", "tins", ["tin"], ("tin",)):
            self.fails(NoName(value), book.worth, value)
            self.fails(NoName(value), book.sum_of, ["tin", value])
            self.fails(NoName(value), book.sum_of, (value, "pan"))
        for value in NO_LISTS + ("tin", {"tin": 1}):
            self.fails(BadBook("names"), book.sum_of, value)
        self.same(told_of(book), before)

    def test_the_story_is_a_copy(self):
        book = Book(6, NAMES)
        book.tell("put tin 1")
        story = book.story()
        book.tell("put tin 2")
        self.same((len(story), len(book.story())), (1, 2))
        other = deepcopy(book)
        other.tell("put tin 3")
        self.same((book.worths, other.worths), ((2, 0, 0), (3, 0, 0)))


class Errors(Case):
    def setUp(self):
        self.book = Book(6, FIVE)
        self.book.tell("put tin 40 , put jar 7")
        self.book.pull("add tin 1", 2, [0])
        self.before = told_of(self.book)

    def refuses(self, wanted, call, *told):
        self.fails(wanted, getattr(self.book, call), *told)
        self.same(told_of(self.book), self.before)

    def test_lines(self):
        for value in NO_STRINGS:
            self.refuses(BadText(0, 0), "tell", value)
            self.refuses(BadText(0, 0), "pull", value, None, None)
        for line, at in (("", 0), ("put tin", 2), ("put tin 5 ,", 4), ("put pan 05", 2), ("take tin 99 ", 3)):
            self.refuses(BadText(0, at), "tell", line)
            self.refuses(BadText(0, at), "pull", line, None, None)
            self.refuses(BadText(0, at), "pull", line, 99, [99])

    def test_phases_and_lots(self):
        for line in ("put tin 1", "put pan 1", "take tin 99", "need tin 0"):
            for phase in NO_INTEGERS + (-1, -2 ** 70):
                self.refuses(BadNumber("phase"), "pull", line, phase, None)
                self.refuses(BadNumber("phase"), "pull", line, phase, [0])
            for phase in (0, 99):
                for lot in BAD_LOTS:
                    self.refuses(BadBits("lot"), "pull", line, phase, lot)

    def test_lines_that_cannot_be_done(self):
        many = " , ".join(f"put {name} 9" for name in FIVE)
        for line, wanted in (("put pan 1 , take tin 99", NoName("pan")), ("take tin 99 , put pan 1", NoName("pan")),
                             ("take tin 99", Misfit("value")), ("add tin 30 , take tin 30", Misfit("value")),
                             (many + " , need tin 10", Misfit("value")), (many, TooMany("cells", 4))):
            self.refuses(wanted, "tell", line)
            for phase, lot in ((0, []), (99, [20000])):
                self.refuses(wanted, "pull", line, phase, lot)

    def test_phases_and_lots_that_are_none(self):
        # From 41 to 40: the entry has other bits, then the open bit, one bit of a cell, the open bit.
        shelf = Shelf(6, FIVE)
        shelf.tell("put tin 40 , put jar 7")
        shelf.pull("add tin 1", 2, [0])
        self.same(shelf.told(), self.before)
        plan = shelf.plan(shelf.deed_of("take tin 1"))
        self.same(len(plan), 4)
        for phase in (4, 5, 20000, 2 ** 70):
            for lot in ([], [0], [99]):
                self.refuses(Misfit("phase"), "pull", "take tin 1", phase, lot)
        for phase, bits in enumerate(plan):
            for lot in ([len(bits)], [0, len(bits)], [20000], list(range(len(bits) + 1))):
                self.refuses(Misfit("lot"), "pull", "take tin 1", phase, lot)
        self.same(self.book.pull("take tin 1", 3, [0]), "behind")


if __name__ == "__main__":
    unittest.main()
