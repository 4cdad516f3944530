import re
import unittest

from oneflip.cards import Card
from oneflip.errors import BadBook, BadLine, BadMachine, BadText, Misfit, NoName, Twice
from oneflip.fits import fitted
from oneflip.kept import kept_of, stands_for
from oneflip.layouts import words_for
from oneflip.machines import Machine, any_to_any, hub, ring
from tests.test_lines import NO_NAMES
from tests.tools import NO_LISTS, NO_STRINGS, Case, Odd, dice, texts_bent

LIGHT = (["red", "green", "amber"], [("red", "green"), ("green", "amber"), ("amber", "red")])
MANY = [f"n{at}" for at in range(24)]
NAME = "[a-z0-9]{1,12}"
FIRST, OTHER = re.compile(f"states(?: {NAME}){{1,24}}"), re.compile(f"{NAME} > {NAME}")


def wrong_item(line, form):
    """The first item that cannot stand in a line, None for a right one."""
    items = line.split(" ")
    for at in range(len(items)):
        ahead = " ".join(items[:at + 1])
        if not any(form.fullmatch(ahead + end) for end in ("", " a", " > a")):
            return at
    return None if form.fullmatch(line) else len(items)


def any_card(die):
    """Names and changes of some card."""
    names = die.sample(MANY + ["z" * 12, "0", "states", "a"], die.randrange(1, 8))
    pairs = [(old, new) for old in names for new in names if old != new]
    return names, die.sample(pairs, die.randrange(len(pairs) + 1))


class Made(Case):
    def test_some_cards(self):
        die = dice(291)
        for _ in range(60):
            names, changes = any_card(die)
            for card in (Card(names, changes), Card(changes=[list(pair) for pair in changes], names=tuple(names))):
                self.same((card.names, card.changes), (tuple(names), tuple(changes)))
                machine = Machine(len(names), [(names.index(old), names.index(new)) for old, new in changes])
                self.same(card.machine == machine, True)
                self.same(card.layout == fitted(machine), True)
                self.holds_facts(card)

    def holds_facts(self, card):
        """Each state is met in the layout, and each change can be made."""
        self.same(stands_for(card.layout, card.machine), True)
        for state in range(len(card.names)):
            self.assertGreater(len(words_for(card.layout, state)), 0)
        self.same(len(kept_of(card.layout, card.machine)),
                  len([state for state in card.layout.means if state is not None]))

    def test_edges(self):
        self.same(Card(["a"], []).layout.means, (0, 0))
        self.same(Card(["z" * 12], ()).machine == Machine(1, []), True)
        pairs = [(old, new) for old in MANY for new in MANY if old != new]
        with self.in_short():
            card = Card(MANY, pairs)
        self.same((card.machine == any_to_any(24), card.layout.bits), (True, 8))
        ringed = Card(MANY, [(MANY[at], MANY[at - 1]) for at in range(24)] + [(MANY[at - 1], MANY[at]) for at in range(24)])
        self.same((ringed.machine == ring(24), ringed.layout.bits), (True, 5))
        hubbed = Card(MANY, [(MANY[0], name) for name in MANY[1:]] + [(name, MANY[0]) for name in MANY[1:]])
        self.same((hubbed.machine == hub(24), hubbed.layout.bits), (True, 6))

    def test_names(self):
        for names in NO_LISTS + ([], (), ["a", None], [1], [True], [["a"]], "abc", MANY + ["a"], MANY + ["n0"], ["a"] * 25,
                                 ["a", Odd()], {"a": 1}) + tuple(["red", name] for name in NO_NAMES):
            self.fails(BadBook("names"), Card, names, None)
            self.fails(BadBook("names"), Card, names, [])

    def test_changes(self):
        for names in (["red", "green"], ["red", "red"], MANY):
            for changes in NO_LISTS + (["ab"], [("red",)], [("red", "green", "red")], [()], [None], [("red", None)],
                                       [(1, "red")], ["red", "green"], ("red", "green"), [{"red", "green"}], [("red", Odd())],
                                       [Odd()], [[["red"], "green"]], "red", [("red", "green"), 0]) + tuple(
                    [("red", name)] for name in NO_NAMES) + tuple([("red", "green"), (name, "red")] for name in NO_NAMES):
                self.fails(BadMachine("changes"), Card, names, changes)

    def test_order_of_errors(self):
        for names, changes, wanted in (
                (["a", "b", "a"], [("c", "d")], Twice("a")), (["a", "b", "b", "a"], [("a", "a")], Twice("b")),
                (("c",) * 24, [], Twice("c")), (["a", "b"], [("a", "a"), ("b", "c")], NoName("c")),
                (["a", "b"], [("a", "b"), ("c", "d")], NoName("c")), (["a", "b"], [("a", "d"), ("c", "d")], NoName("d")),
                (["a", "b"], [("a", "b"), ("a", "b"), ("b", "b")], Misfit("changes")),
                (["a", "b"], [("b", "b"), ("a", "b"), ("a", "b")], Misfit("changes")),
                (["a", "b"], [("a", "b"), ["b", "a"], ["b", "a"], ("a", "b")], Twice(("b", "a"))),
                (["a", "b"], [["a", "b"], ("a", "b")], Twice(("a", "b"))), (["a"], [("b", "b")], NoName("b"))):
            self.fails(wanted, Card, names, changes)
        self.same(Card(["a", "b"], [("a", "b"), ("b", "a")]).changes, (("a", "b"), ("b", "a")))

    def test_what_is_passed_is_copied(self):
        names, changes = ["a", "b"], [["a", "b"]]
        card = Card(names, changes)
        names[0], changes[0][0] = "c", "c"
        changes.append(("b", "a"))
        self.same((card.names, card.changes, card.lines()), (("a", "b"), (("a", "b"),), ("states a b", "a > b")))

    def test_equal(self):
        self.same(Card(*LIGHT) == Card(tuple(LIGHT[0]), [list(pair) for pair in LIGHT[1]]), True)
        self.same(Card(*LIGHT) != Card(*LIGHT), False)
        names, changes = LIGHT
        for other in (Card(names[::-1], changes), Card(names, changes[::-1]), Card(names, changes[1:]), Card(names, []),
                      Card(names + ["blue"], changes), Card(["red", "green", "blue"], []), None, "light", LIGHT, Card,
                      Machine(3, [(0, 1), (1, 2), (2, 0)])):
            self.same(Card(names, changes) == other, False)
            self.same(Card(names, changes) != other, True)

    def test_methods_are_its_own(self):
        for name in ("__init__", "__eq__", "lines", "read"):
            self.assertIn(name, vars(Card))


class Lines(Case):
    def test_there_and_back(self):
        die = dice(292)
        for names, changes in [any_card(die) for _ in range(60)] + [LIGHT, (["a"], []), (MANY, [])]:
            lines = Card(names, changes).lines()
            self.same(lines, ("states " + " ".join(names),) + tuple(f"{old} > {new}" for old, new in changes))
            for told in (lines, list(lines)):
                self.same(Card.read(told) == Card(names, changes), True)
                self.same(Card.read(lines=told).lines(), lines)
        self.same(Card(*LIGHT).read(["states on"]) == Card(["on"], []), True)

    def test_no_lines(self):
        for value in NO_LISTS + ([], (), "states a", ["states a", None], [None], [["states", "a"]], [1], [b"states a"],
                                 ["states a", ("a", ">", "b")], [Odd()], ["states", 7]):
            self.fails(BadText(0, 0), Card.read, value)
        for value in NO_STRINGS:
            self.fails(BadText(0, 0), Card.read, [value])
            self.fails(BadText(0, 0), Card.read, ["states red red", "red", value])

    def test_bent_lines(self):
        seen = 0
        lines = ("states red green x", "red > green", "green > x", "x > red")
        for number, line in enumerate(lines):
            form = OTHER if number else FIRST
            bents = [bent for bent, _ in texts_bent(line)]
            items = line.split(" ")
            for at in range(len(items) + 1):
                bents += [" ".join(items[:at]), " ".join(items[:at] + items[at + 1:]), " ".join(items[:at] + [">"] + items[at:]),
                          " ".join(items[:at] + [""] + items[at:]), " ".join(items[:at] + [","] + items[at + 1:])]
            for bent in bents:
                wrong = wrong_item(bent, form)
                if wrong is not None:
                    seen += 1
                    # The lines behind the first wrong one are not looked at.
                    for behind in (lines[number + 1:], ("x",), ("",), ("red > red",)):
                        self.fails(BadLine(number, BadText(0, wrong)), Card.read, lines[:number] + (bent,) + behind)
        self.assertGreater(seen, 100)

    def test_first_line(self):
        many = "states " + " ".join(MANY)
        for line, error in (("states", BadText(0, 1)), ("", BadText(0, 0)), ("states ", BadText(0, 1)),
                            ("State a", BadText(0, 0)), ("states a B", BadText(0, 2)), (many + " a", BadText(0, 25)),
                            (many + " n0", BadText(0, 25)), (many + " ", BadText(0, 25)), (many + " A b", BadText(0, 25)),
                            ("states a a B", BadText(0, 3)), ("states a b b a", Twice("b")), ("states a b a", Twice("a")),
                            ("states " + "a" * 13, BadText(0, 1)), (" ".join(["states"] + ["a"] * 24), Twice("a")),
                            (" ".join(["states"] + ["a"] * 25), BadText(0, 25)), ("states a > b", BadText(0, 2))):
            for behind in ((), ("a > b",), ("?",), ("a > a", "")):
                self.fails(BadLine(0, error), Card.read, (line,) + behind)
        self.same(Card.read([many]).names, tuple(MANY))
        self.same(Card.read(["states states"]).names, ("states",))

    def test_other_lines(self):
        ahead = ("states a b c", "a > b", "b > c")
        for line, error in (("a", BadText(0, 1)), ("a >", BadText(0, 2)), ("a > ", BadText(0, 2)), ("a > b c", BadText(0, 3)),
                            ("a > b >", BadText(0, 3)), ("> b", BadText(0, 0)), ("a < b", BadText(0, 1)), ("", BadText(0, 0)),
                            ("a b", BadText(0, 1)), ("a > B", BadText(0, 2)), ("d > D", BadText(0, 2)), ("d > e", NoName("d")),
                            ("a > e", NoName("e")), ("d > d", NoName("d")), ("a > a", Misfit("changes")),
                            ("a > b", Twice(("a", "b"))), ("b > c", Twice(("b", "c"))), ("a > b ", BadText(0, 3)),
                            ("states a b", BadText(0, 1)), ("states > a", NoName("states"))):
            self.fails(BadLine(3, error), Card.read, ahead + (line,))
            self.fails(BadLine(3, error), Card.read, ahead + (line, "x", "a > b"))
            self.fails(BadLine(4, error), Card.read, ahead + ("c > a", line))
        self.same(Card.read(ahead + ("c > a",)).changes, (("a", "b"), ("b", "c"), ("c", "a")))


if __name__ == "__main__":
    unittest.main()
