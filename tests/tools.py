"""What the tests share: comparing just as told, errors with their fields, values of wrong kinds."""

import random
import signal
import unittest

from oneflip.codes import Code
from oneflip.errors import FlipError
from oneflip.layouts import Layout
from oneflip.machines import Machine
from oneflip.papers import Paper
from oneflip.stores import Store


class Odd:
    """A value of a class that nobody asked for, which says that it equals all others."""

    def __eq__(self, other):
        return True

    __hash__ = None


# Values that are no integers; those that are told as truths, and a float that equals an integer, among them.
NO_INTEGERS = (None, True, False, "1", "", b"1", 1.0, 0.5, [1], (1,), {1: 1}, {1}, Odd(), int, Paper("note"))
NO_LISTS = (None, True, 0, 7, "01", "", b"01", 1.5, {0: 1}, {0, 1}, Odd(), range(2), list, Paper("note"))
NO_MACHINES = (None, True, 2, "2", [], (2, []), {}, Odd(), Machine, Paper("machine", 2, []), Layout(1, [0, 1]))
NO_LAYOUTS = (None, True, 2, "1 0 1", [], (1, [0, 1]), {}, Odd(), Layout, Paper("layout", 1, []), Machine(2, []))
NO_CODES = (None, True, 2, "2 1", [], (2, 1), {}, Odd(), Code, Paper("code", 2, 1), Store(2, 1, 1))
NO_STORES = (None, True, 2, "2 1 1", [], (2, 1, 1), {}, Odd(), Store, Paper("store", 2, 1, 1), Code(2, 1))
# Values that are no lot of bits, and such that are no phases.
BAD_LOTS = NO_LISTS + (
    [1, 1], [0, 2, 0], (3, 3), [-1], [20001], [4, 20001], [True], [0, False], [None], ["1"], [1.0], [[1]], [(1,)],
    [0, 1, None], [Odd()], [{}], [10 ** 400], [2, 3, 2.0])
BAD_PHASES = NO_LISTS + ([[]], [()], [[0], []], ([1], (), [2]), [0], [0, 1], (1,)) + tuple(
    [[2], value] for value in BAD_LOTS) + tuple((value,) for value in BAD_LOTS)
NO_STRINGS = (None, True, 0, 7, b"2", ["2"], ("2",), 1.5, Odd(), str, Paper("2"))


def is_same(value, wanted):
    """Whether a value is just what is wanted: of the same kinds, all the way in."""
    if type(value) is not type(wanted):
        return False
    if isinstance(wanted, (list, tuple)):
        return len(value) == len(wanted) and all(is_same(one, other) for one, other in zip(value, wanted))
    if isinstance(wanted, FlipError):
        return is_same(sorted(vars(value).items()), sorted(vars(wanted).items()))
    return value == wanted


def shown(value):
    """What a value looks like, unless it is too long to be shown."""
    try:
        told = repr(value)
    except ValueError:
        return f"a long {type(value).__name__}"
    return told if len(told) < 2000 else told[:2000] + " .."


def error_of(call, *told, **named):
    """The error that a call raises, or None."""
    try:
        call(*told, **named)
    except FlipError as error:
        return error
    return None


def texts_bent(text):
    """Texts of which one item is bent so that it cannot stand, each with the number of this item."""
    items = text.split(" ")
    for at, item in enumerate(items):
        for bent in ("", "x", "+" + item, "0" + item, "-" + item, "-0", item + "\r", item + "\n", item + "\t",
                     "\t" + item, item + "\u00a0", "\u0663", "\u00b2", "1_0", "1.0", "0x1", "--1", "None", "//", "|",
                     "9" * 140, "9" * 141, "9" * 5000, "-" + "9" * 141):
            yield " ".join(items[:at] + [bent] + items[at + 1:]), at
    yield text + " ", len(items)
    yield " " + text, 0
    yield text.replace(" ", "\u00a0"), 0
    yield text.replace(" ", "\t"), 0
    yield text.replace(" ", "  "), 1


class Case(unittest.TestCase):
    """A test case with the comparisons of this project."""

    def same(self, value, wanted, note=None):
        if not is_same(value, wanted):
            self.fail(f"{shown(value)} is not just {shown(wanted)} {shown(note)}")

    def fails(self, wanted, call, *told, **named):
        """The call raises an error of just the class of the wanted one, with just its fields."""
        error = error_of(call, *told, **named)
        if not is_same(error, wanted):
            self.fail(f"{shown(error)} instead of {shown(wanted)} for {shown(told)} {shown(named)}")

    def in_short(self, seconds=5):
        return _Limit(self, seconds)


class _Limit:
    """Breaks off what takes too long, so that a loop over all words does not hold up the tests."""

    def __init__(self, case, seconds):
        self.case = case
        self.seconds = seconds

    def __enter__(self):
        signal.signal(signal.SIGALRM, self._late)
        signal.alarm(self.seconds)

    def _late(self, *_):
        self.case.fail(f"it takes more than {self.seconds} seconds")

    def __exit__(self, *_):
        signal.alarm(0)


def dice(seed):
    """Numbers that look thrown, and are the same in each run."""
    return random.Random(seed)


def any_machine(die, states, part=None):
    """Some machine of so many states; part of all its changes, out of ten, are there."""
    part = die.randrange(11) if part is None else part
    pairs = [(old, new) for old in range(states) for new in range(states) if old != new]
    return Machine(states, [pair for pair in pairs if die.randrange(10) < part])


def any_layout(die, bits, states, nothing=1):
    """Some layout; nothing tells how often a word means nothing, beside each state once."""
    choice = list(range(states)) + [None] * nothing
    return Layout(bits, [die.choice(choice) for _ in range(2 ** bits)])
