import re
import unittest

from oneflip.errors import BadBits, BadDeed, BadLine, BadNumber, BadPaper, BadStore, BadText, Misfit
from oneflip.papers import Denial, Paper
from oneflip.scripts import Story, counted, is_script, played, read_script, script_text
from oneflip.stores import Store, word_for
from oneflip.texts import digits_of
from tests.reckon import Till, till_plan, with_flips
from tests.test_stores import SMALL, any_deed
from tests.tools import (BAD_LOTS, NO_INTEGERS, NO_LISTS, NO_STORES, NO_STRINGS, Case, Odd, dice, error_of, texts_bent)

NUMBER = "(?:0|[1-9][0-9]{0,139})"
DEED = f"{NUMBER} {NUMBER}(?: , {NUMBER} {NUMBER}){{0,7}}"
STEP = re.compile(f"mend|do (?P<do>{DEED})|fall [0-7](?P<fall>(?: {NUMBER})*)|"
                  f"cut [0-7](?P<lot>(?: {NUMBER})*) : (?P<cut>{DEED})")
# What can stand behind any items that can stand: by it an item is told that cannot.
ENDS = ("", " 0", " 987654321 0", " : 987654321 0", " 0 : 987654321 0", " mend")
TINY = Store(2, 1, 1)
# Values in the place of a deed, a phase, a lot, a step, with which there is no script.
BAD_DEEDS = NO_LISTS + ([], (), [(at, 0) for at in range(9)], [(0, 0), (0, 0)], [(1, 0), [1, 1]], [(-1, 0)], [(0, -1)],
                        [(0,)], [(0, 0, 0)], [()], [0], [0, 1], (0, 1), [(0, 0), None], [(None, 0)], [(0, None)],
                        [(True, 0)], [(0, True)], [(1, 1), (0, False)], [(0, 1.0)], ["00"], [("0", 0)], [(0, "0")],
                        [{0, 1}], [((0,), 0)], [[(0, 0)]], [Odd()], [(Odd(), 0)], [(0, Odd())])
BAD_STEPS = NO_LISTS + ((), [], ("do",), ("do", [(0, 0)], 0), ("mend", 0), ("mend", ()), ("fall", 0), ("fall", 0, [], 0),
                        ("cut", 0, []), ("cut", 0, [], [(0, 0)], 0), ("cut", [(0, 0)]), ("drop",), ("drop", 0, [], [(0, 0)]), ("drop", 0, []),
                        ("drop", [(0, 0)]), ("Mend",), ("mend ",),
                        ("",), (None,), (0,), (b"mend",), (["mend"],), (Odd(),), (Odd(), [(0, 0)]), ("fall", [], 0),
                        ("cut", [], 0, [(0, 0)]), ("cut", 0, [(0, 0)], []), "do", "mend", [("mend",)])


def is_right(text):
    """Whether a text is one of a script, step by step."""
    steps = text.split(" / ")
    for step in steps if text else ():
        match = STEP.fullmatch(step)
        if match is None:
            return False
        lot = [int(item) for item in (match["fall"] or match["lot"] or "").split()]
        cells = [pair.split(" ")[0] for pair in (match["do"] or match["cut"] or "").split(" , ")]
        if lot != sorted(set(lot)) or max(lot, default=0) > 20000 or len(set(cells)) != len(cells):
            return False
    return len(steps) <= 200


def wrong_item(text):
    """The first item that cannot stand, by trying what can follow; None for the text of a script."""
    items = text.split(" ")
    if is_right(text):
        return None
    for at in range(len(items)):
        ahead = " ".join(items[:at + 1])
        # Behind nothing a step can begin, but an empty item is no step.
        if not any(is_right(ahead + end) for end in ENDS) or ahead == "":
            return at
    return len(items)


def any_script(die, sizes, steps):
    """Some script that can be played from noughts on, and the Story of it, in the open."""
    word, flips, cuts, script, rows = 0, 0, 0, [], []
    store = Store(*sizes)
    for _ in range(steps):
        old = Till(*sizes, word).means()
        mending = till_plan(*sizes, word)
        kind = die.choice(("do", "cut", "cut", "cut", "mend", "fall"))
        deed = any_deed(die, store) if kind in ("do", "cut") else None
        if kind == "fall" and not mending:
            kind = "mend"
        plan = till_plan(*sizes, word, deed)
        done = [bit for phase in plan for bit in phase]
        step = (kind,) if deed is None else (kind, deed)
        if kind in ("cut", "fall"):
            phase = die.randrange(len(plan))
            lot = die.sample(range(len(plan[phase])), die.randrange(len(plan[phase]) + 1))
            done = [bit for ahead in plan[:phase] for bit in ahead] + [plan[phase][number] for number in lot]
            step = (kind, phase, lot) + step[1:]
            cuts += 1
        word, flips = with_flips(word, done), flips + len(done)
        means = Till(*sizes, word).means()
        new = tuple(dict(deed or ()).get(cell, value) for cell, value in enumerate(old))
        came = {"do": "done", "cut": "behind" if means == new else "before"}.get(kind, "mended")
        script.append(step)
        rows.append((came, means))
    return script, (tuple(rows), word, flips, cuts)


class Known(Case):
    def test_scripts(self):
        for script in ([], (), [("mend",)], [["mend"]], ([["do", [[0, 1]]]],)[0], [("do", ((0, 10 ** 5000),))],
                       [("cut", 0, [], [(0, 0)])], [("cut", 7, (20000, 0), [(at, at) for at in range(8)])],
                       [("fall", 7, [5, 3, 1])], [("fall", 0, ())], [("mend",)] * 200, (("mend",),) * 200,
                       [("do", [(2 ** 70, 0)]), ["fall", 3, []], ("mend",), ("cut", 1, [0], [[1, 1]])]):
            self.same(is_script(value=script), True)

    def test_what_is_none(self):
        for value in NO_LISTS + ([("mend",)] * 201, ("mend",), "mend", ["mend"], {0: ("mend",)}, [[]], [()]):
            self.same(is_script(value), False)
        for step in BAD_STEPS:
            self.same(is_script([step]), False)
            self.same(is_script([("mend",), step]), False)
        for deed in BAD_DEEDS:
            self.same(is_script([("do", deed)]), False)
            self.same(is_script([("cut", 0, [], deed)]), False)
        for phase in NO_INTEGERS + (-1, 8, 2 ** 70):
            self.same(is_script([("fall", phase, [])]), False)
            self.same(is_script([("cut", phase, [], [(0, 0)])]), False)
        for lot in BAD_LOTS:
            self.same(is_script([("fall", 0, lot)]), False)
            self.same(is_script([("cut", 0, lot, [(0, 0)])]), False)
        for word in ("do", "cut", "fall", "mend"):
            for parts in ((), ([(0, 0)],), (0, []), (0, [], [(0, 0)])):
                right = {"do": 1, "cut": 3, "fall": 2, "mend": 0}[word] == len(parts)
                self.same(is_script([(word, *parts)]), right)

    def test_fails(self):
        for value in BAD_STEPS:
            for script in ([value], [("mend",), value], "mend", [("mend",)] * 201):
                self.fails(BadDeed("script"), script_text, script)
                self.fails(BadDeed("script"), counted, script, None)
                self.fails(BadDeed("script"), played, TINY, [0, 0], script)


class Texts(Case):
    def test_some_texts(self):
        die = dice(261)
        for sizes in SMALL:
            for _ in range(10):
                script, _ = any_script(die, sizes, die.randrange(12))
                text = script_text(script=script)
                self.same(is_right(text), True)
                told = read_script(text=text)
                self.same(script_text(told), text)
                self.same(len(told), len(script))
                for step, other in zip(told, script):
                    self.same(step[0], other[0])
                    if step[0] in ("cut", "fall"):
                        self.same(step[1:3], (other[1], tuple(sorted(other[2]))))
                    if step[0] in ("do", "cut"):
                        self.same(step[-1], tuple(other[-1]))

    def test_told_texts(self):
        for script, text in (((), ""), ((("mend",),), "mend"), ((("do", ((0, 1),)),), "do 0 1"),
                             ((("do", ((7, 1), (0, 9))),), "do 7 1 , 0 9"), ((("fall", 0, ()),), "fall 0"),
                             ((("fall", 7, (0, 20000)),), "fall 7 0 20000"),
                             ((("cut", 0, (), ((4, 5),)),), "cut 0 : 4 5"),
                             ((("cut", 3, (1, 2), ((4, 5), (2, 6))), ("mend",)), "cut 3 1 2 : 4 5 , 2 6 / mend"),
                             ((("fall", 0, ()), ("fall", 1, (5,)), ("do", ((0, 10 ** 140 - 1),))),
                              "fall 0 / fall 1 5 / do 0 " + "9" * 140),
                             ((("mend",),) * 200, " / ".join(["mend"] * 200)),
                             ((("do", tuple((at, at) for at in range(8))),), "do 0 0 , 1 1 , 2 2 , 3 3 , 4 4 , 5 5 , 6 6 , 7 7")):
            self.same(script_text(script), text)
            self.same(script_text([list(step) for step in script]), text)
            self.same(read_script(text), script)
        self.same(script_text([("cut", 1, [3, 0, 2], [[1, 1]])]), "cut 1 0 2 3 : 1 1")
        self.same(script_text([("fall", 1, (9, 10, 1))]), "fall 1 1 9 10")

    def test_great_numbers(self):
        for digits in (139, 140, 141, 639, 640, 641, 4300, 4301, 9999):
            text = "7" + "0" * (digits - 2) + "1"
            number = 7 * 10 ** (digits - 1) + 1
            self.same(digits_of(number), text)
            self.same(script_text([("do", [(number, number)])]), f"do {text} {text}")
            if digits > 140:
                self.fails(BadText(0, 1), read_script, f"do {text} {text}")
                self.fails(BadText(0, 2), read_script, f"do 0 {text}")
        for number in (0, 1, 10 ** 64 - 1, 10 ** 64, 10 ** 64 + 1, 10 ** 128, 123456789 * 10 ** 60 + 5, 2 ** 500):
            self.same(digits_of(number), str(number))

    def test_bent_texts(self):
        seen = 0
        for text in ("do 0 1 , 2 3 / mend / fall 1 0 2", "cut 1 0 5 : 1 1 , 0 2 / do 3 4", "mend / cut 0 : 1 0"):
            for bent, _ in texts_bent(text):
                at = wrong_item(bent)
                if at is None:
                    self.same(script_text(read_script(bent)), bent)
                else:
                    self.fails(BadText(0, at), read_script, bent)
                    seen += 1
        self.assertGreater(seen, 500)

    def test_items_left_out_and_doubled(self):
        die = dice(262)
        seen = 0
        for sizes in SMALL[4:]:
            for _ in range(2):
                items = script_text(any_script(die, sizes, 4)[0]).split(" ")
                for at in range(len(items)):
                    for told in (items[:at] + items[at + 1:], items[:at + 1] + items[at:], items[:at] + [""] + items[at:],
                                 items[:at], items[:at] + [","] + items[at:], items[:at] + [":"] + items[at:],
                                 items[:at] + ["/"] + items[at:], items[:at] + ["9"] + items[at + 1:],
                                 items[:at] + ["mend"] + items[at + 1:], items[:at] + ["20001"] + items[at + 1:]):
                        text = " ".join(told)
                        wrong = wrong_item(text)
                        error = error_of(read_script, text)
                        self.same(None if error is None else (type(error), error.line, error.item),
                                  None if wrong is None else (BadText, 0, wrong), text)
                        seen += wrong is not None
        self.assertGreater(seen, 1000)

    def test_told_wrong_texts(self):
        many = " / ".join(["mend"] * 200)
        for text, at in ((" ", 0), ("do", 1), ("do 1", 2), ("do 1 2 ,", 4), ("do 0 5 , 0 6", 4), ("do 0 5 , 1 6 , 0", 7),
                         ("do 1 2 3", 3), ("do 1 2 / ", 4), ("do 1 2 /", 4), ("/ mend", 0), (": mend", 0), (", mend", 0),
                         ("mend mend", 1), ("mend 1", 1), ("mend ,", 1), ("mend :", 1), ("fall", 1), ("fall 8", 1),
                         ("fall -1", 1), ("fall 0 1 1", 3), ("fall 0 3 2", 3), ("fall 0 20001", 2), ("fall 0 -1", 2), ("cut 0 -1 : 0 0", 2), ("fall 0 :", 2),
                         ("fall 0 ,", 2), ("fall 0 1 ", 3), ("cut", 1), ("cut 0", 2), ("cut 0 :", 3), ("cut 0 1", 3),
                         ("cut 0 : 1", 4), ("cut 0 / mend", 2), ("cut 8 : 1 1", 1), ("cut 0 2 1 : 0 0", 3),
                         ("cut 0 : : 0 0", 3), ("cut 0 : 1 1 :", 5), ("cut 0 : 1 1 , 1 2", 6), ("cut : 1 1", 1),
                         (many + " /", 399), (many + " / mend", 399), ("do 0 0 , 1 1 , 2 2 , 3 3 , 4 4 , 5 5 , 6 6 , 7 7 ,", 24),
                         ("do 0 0 , 1 1 , 2 2 , 3 3 , 4 4 , 5 5 , 6 6 , 7 7 , 8 8", 24), ("drop", 0), ("Do 1 1", 0),
                         ("mend\n", 0), ("do 01 1", 1), ("do 1 +1", 2), ("do \u0663 1", 1), ("fall 0 \u00b2", 2)):
            self.same(wrong_item(text), at)
            self.fails(BadText(0, at), read_script, text)
        for value in NO_STRINGS + ((), [], [("mend",)]):
            self.fails(BadText(0, 0), read_script, value)

    def test_long_texts(self):
        lot = list(range(3800))
        with self.in_short():
            text = script_text([("fall", 0, lot)])
            self.same(read_script(text), (("fall", 0, tuple(lot)),))
            self.fails(BadText(0, 3802), read_script, text + " 7")


class Played(Case):
    def test_against_a_list_of_cells(self):
        die = dice(263)
        seen = {"done": 0, "before": 0, "behind": 0, "mended": 0}
        for sizes in SMALL:
            store = Store(*sizes)
            for _ in range(12):
                script, wanted = any_script(die, sizes, die.randrange(20))
                told = played(store=store, values=[0] * store.cells, script=script)
                self.assertIs(type(told), Story)
                self.same((told.rows, told.lies, told.flips, told.cuts), wanted)
                self.same(told.parts, wanted)
                for came, _ in told.rows:
                    seen[came] += 1
                again = read_script(script_text(script))
                self.same(played(store, (0,) * store.cells, again) == told, True)
                numbers = tuple(at for at, (came, _) in enumerate(told.rows) if came in ("done", "behind"))
                self.same(counted(script=script, story=told), numbers)
                self.leaves_the_same(store, script, numbers, told)
        self.assertGreater(min(seen.values()), 50)

    def leaves_the_same(self, store, script, numbers, told):
        """Without its cuts and falls, those told as "behind" done, the script leaves the same cells."""
        left = [("do", script[at][-1]) for at in numbers]
        behind = played(store, [0] * store.cells, left)
        if script:
            self.same(behind.rows[-1][1] if left else (0,) * store.cells, told.rows[-1][1])
        self.same(behind.cuts, 0)

    def test_deeds_that_change_nothing(self):
        for phase, lot in ((0, []), (0, [0]), (1, []), (1, [0])):
            told = played(TINY, [0, 1], [("cut", phase, lot, [(1, 1)])])
            self.same(told.rows, (("behind", (0, 1)),))
        self.same(played(TINY, [0, 1], [("do", [(0, 0)])]).rows, (("done", (0, 1)),))
        self.same(played(TINY, [0, 1], [("mend",), ["mend"]]).parts, ((("mended", (0, 1)),) * 2, 2, 0, 0))

    def test_begin_and_end(self):
        told = played(Store(3, 2, 1), [1, 2, 3], [])
        self.same(told.parts, ((), 57, 0, 0))
        store = Store(256, 48, 8)
        values = [2 ** 48 - 1 - at for at in range(256)]
        self.same(played(store, values, ()).lies, word_for(store, values))

    def test_greatest(self):
        store = Store(256, 48, 8)
        deeds = [[(8 * (at % 32) + cell, 2 ** 48 - 1 - at) for cell in range(8)] for at in range(200)]
        script = [("cut", 2, (3, 0), deed) if at % 2 else ("do", deed) for at, deed in enumerate(deeds)]
        with self.in_short(10):
            told = played(store, [0] * 256, script)
        self.same((told.cuts, len(told.rows), told.rows[-1][1][56:64]), (100, 200, (2 ** 48 - 200,) * 8))

    def test_fails(self):
        for store in NO_STORES:
            self.fails(BadStore("store"), played, store, None, None)
        for values in NO_LISTS + ([], [0], [0, 0, 0], [0, 2], [0, -1], [0, True], [None, 0]):
            self.fails(BadDeed("values"), played, TINY, values, None)
            self.fails(BadDeed("values"), played, TINY, values, [("mend",)])
        for script in NO_LISTS + (["mend"], [("do", [])]):
            self.fails(BadDeed("script"), played, TINY, [0, 0], script)

    def test_steps_that_raise(self):
        store = Store(3, 2, 2)
        good, still = ("cut", 1, [0], [(1, 1)]), ("fall", 0, [])
        for step, error in ((("do", [(3, 0)]), BadDeed("deed")), (("do", [(0, 4)]), BadDeed("deed")),
                            (("do", [(0, 0), (1, 0), (2, 0)]), BadDeed("deed")), (("do", [(0, 10 ** 5000)]), BadDeed("deed")),
                            (("cut", 7, [99], [(0, 4)]), BadDeed("deed")), (("cut", 7, [99], [(0, 1)]), BadNumber("phase")),
                            (("cut", 0, [99], [(0, 1)]), BadBits("lot")), (("cut", 0, [20000], [(0, 1)]), BadBits("lot")),
                            (("fall", 2, [0]), BadNumber("phase")), (("fall", 7, [99]), BadNumber("phase")),
                            (("fall", 0, [5]), BadBits("lot")), (("fall", 1, [1]), BadBits("lot"))):
            for ahead, behind in (([good], []), ([good, still, still], [("mend",), ("do", [(3, 3)])]),
                                  ([good] + [still] * 198, [])):
                self.fails(BadLine(len(ahead), error), played, store, [0, 0, 0], ahead + [step] + behind)
        self.fails(BadLine(0, BadNumber("phase")), played, store, [0, 0, 0], [("fall", 0, [])])
        self.fails(BadLine(1, BadNumber("phase")), played, store, [0, 0, 0], [("mend",), ["fall", 0, [0]], good])

    def test_what_is_passed_stays(self):
        values, script = [0, 0], [["cut", 1, [0], [[1, 1]]], ["mend"]]
        told = played(TINY, values, script)
        self.same((values, script), ([0, 0], [["cut", 1, [0], [[1, 1]]], ["mend"]]))
        script[0][3][0][1] = 0
        values[0] = 1
        self.same(told.rows, (("behind", (0, 1)), ("mended", (0, 1))))


class Stories(Case):
    def test_a_paper(self):
        for story in (Story([["done", [1]]], 5, 6, 7), Story(cuts=7, flips=6, lies=5, rows=(("done", (1,)),))):
            self.same((story.rows, story.lies, story.flips, story.cuts), ((("done", (1,)),), 5, 6, 7))
            self.same((story.word, story.parts, bool(story)), ("story", ((("done", (1,)),), 5, 6, 7), True))
        self.assertEqual(Story.__bases__, (Paper,))
        value = {"any": [1]}
        for at in range(4):
            parts = [None] * 4
            parts[at] = value
            self.assertIs(Story(*parts).parts[at], value)
        self.same(Story([1], 2, 3, 4) == Story((1,), 2, 3, 4), True)
        self.same(Story([1], 2, 3, 4) == Paper("story", [1], 2, 3, 4), False)

    def test_counted_as_told(self):
        script = [("do", [(0, 1)]), ("mend",), ("cut", 0, [], [(0, 0)]), ("cut", 0, [], [(0, 0)])]
        for words, wanted in ((("done", "mended", "before", "behind"), (0, 3)), (("done", "mended", "behind", "behind"), (0, 2, 3)),
                              (("before",) * 4, ()), (("mended",) * 4, ()), (("x", "", "Done", None), ()),
                              ((Odd(), 1, ("done",), ["behind"]), ())):
            rows = [[word, (0, 0)] for word in words]
            self.same(counted(script, Story(rows, 0, 0, 0)), wanted)
            self.same(counted(tuple(script), Story(tuple(rows), None, "x", -1)), wanted)
        self.same(counted([], Story([], 0, 0, 0)), ())

    def test_fails(self):
        script = [("do", [(0, 1)]), ("mend",)]
        rows = (("done", (1, 0)), ("mended", (1, 0)))
        for value in (None, True, 0, "story", rows, [rows, 0, 0, 0], {}, Odd(), Story, object(), Paper("story", rows, 0, 0, 0),
                      Denial("story", rows, 0, 0, 0), TINY):
            self.fails(BadPaper("story"), counted, script, value)
        for told in ((), rows[:1], rows * 2, rows + rows[:1], None, True, 2, "ab", {0: rows[0], 1: rows[1]}, {1, 2}, Odd(),
                     range(2), Story(rows, 0, 0, 0), (rows[0], None), (rows[0], "ab"), (("done",), rows[1]),
                     (rows[0], ("mended", (1, 0), 0))):
            self.fails(Misfit("story"), counted, script, Story(told, 0, 0, 0))
        self.fails(Misfit("story"), counted, [], Story(rows, 0, 0, 0))
        self.fails(Misfit("story"), counted, [], Story(None, 0, 0, 0))


if __name__ == "__main__":
    unittest.main()
