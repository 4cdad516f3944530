import unittest

from oneflip.devices import Device
from oneflip.errors import BadBits, BadNumber, BadPhases, BadText, BadWord, Misfit, TooMany
from tests.reckon import bits_of, lots, number_of
from tests.tools import BAD_LOTS, BAD_PHASES, NO_INTEGERS, NO_STRINGS, Case, dice, texts_bent


class Row:
    """A row of noughts and ones, and flips that wait: what a device must be like."""

    def __init__(self, bits, word):
        self.row = bits_of(word, bits)
        self.waiting = []
        self.reached = self.pulled = 0

    def reach(self, flips):
        for bit in flips:
            self.row[bit] = 1 - self.row[bit]
            self.reached += 1
        self.waiting = []
        return number_of(self.row)

    def cut(self, lot):
        self.pulled += 1
        return self.reach([bit for number, bit in enumerate(self.waiting) if number in lot])

    def run(self, phases):
        self.reach(self.waiting)
        for phase in phases:
            self.reach(phase)
        return number_of(self.row)

    def run_cut(self, phases, many, lot):
        self.run(phases[:many])
        self.waiting = sorted(phases[many])
        return self.cut(lot)


def told_of(device):
    return (device.bits, device.lies, device.waiting, device.reached, device.pulled)


def any_phases(die, bits, many=None):
    return [die.sample(range(bits), die.randrange(1, min(bits, 6) + 1))
            for _ in range(die.randrange(5) if many is None else many)]


def with_waiting(bits, word, flips):
    device = Device(bits, word)
    for bit in flips:
        device.flip(bit)
    return device


class Devices(Case):
    def is_like(self, device, row):
        self.same(told_of(device),
                  (len(row.row), number_of(row.row), tuple(row.waiting), row.reached, row.pulled))

    def test_made(self):
        for bits, word in ((1, 0), (1, 1), (3, 7), (400, 2 ** 400 - 1), (400, 2 ** 399), (400, 0)):
            device = Device(word=word, bits=bits)
            self.same(told_of(device), (bits, word, (), 0, 0))
            self.same(device.look(), word)
            self.same(device.may_lie(), (word,))

    def test_as_a_row_of_noughts_and_ones(self):
        die = dice(131)
        for bits in (1, 2, 3, 7, 64, 400):
            for _ in range(12):
                word = die.randrange(2 ** bits)
                device, row = Device(bits, word), Row(bits, word)
                for _ in range(40):
                    self.step(die, device, row)
                    self.is_like(device, row)

    def step(self, die, device, row):
        bits = device.bits
        deed = die.randrange(10)
        if deed < 5:
            bit = die.randrange(bits)
            row.waiting.append(bit)
            self.same(device.flip(bit=bit), len(row.waiting))
        elif deed == 5:
            many = len(row.waiting)
            self.same(device.barrier(), many)
            row.reach(row.waiting)
        elif deed == 6:
            lot = die.sample(range(len(row.waiting)), die.randrange(len(row.waiting) + 1))
            self.same(device.cut(lot=die.choice((lot, tuple(lot)))), row.cut(lot))
        elif deed == 7:
            phases = any_phases(die, bits)
            self.same(device.run(phases=phases), row.run(phases))
        elif deed == 8:
            phases = any_phases(die, bits, die.randrange(1, 5))
            many = die.randrange(len(phases))
            lot = die.sample(range(len(phases[many])), die.randrange(len(phases[many]) + 1))
            self.same(device.run_cut(phases=phases, many=many, lot=lot), row.run_cut(phases, many, lot))
        else:
            read = list(row.row)
            for bit in row.waiting:
                read[bit] = 1 - read[bit]
            self.same(device.look(), number_of(read))

    def test_cut_by_every_lot(self):
        die = dice(132)
        for _ in range(12):
            bits = die.randrange(1, 6)
            word, flips = die.randrange(2 ** bits), [die.randrange(bits) for _ in range(die.randrange(7))]
            device = with_waiting(bits, word, flips)
            lie = set()
            for lot in lots(range(len(flips))):
                other, row = device.copy(), Row(bits, word)
                row.waiting = list(flips)
                self.same(other.cut(lot), row.cut(lot))
                self.is_like(other, row)
                lie.add(other.lies)
            self.same(device.may_lie(), tuple(sorted(lie)))
            self.same(told_of(device), (bits, word, tuple(flips), 0, 0))

    def test_a_bit_that_waits_twice(self):
        device = with_waiting(2, 1, [0, 0])
        self.same((device.look(), device.may_lie()), (1, (0, 1)))
        self.same([device.copy().cut(lot) for lot in ([], [0], [1], [1, 0])], [1, 0, 0, 1])
        self.same((device.barrier(), device.lies, device.reached), (2, 1, 2))

    def test_ten_and_eleven_flips(self):
        device = with_waiting(400, 0, range(0, 400, 40))
        with self.in_short():
            told = device.may_lie()
        self.same(told, tuple(sorted(sum(2 ** bit for bit in lot) for lot in lots(range(0, 400, 40)))))
        self.same(len(told), 1024)
        device.flip(0)
        self.fails(TooMany("flips", 10), device.may_lie)
        self.same(with_waiting(1, 0, [0] * 10).may_lie(), (0, 1))
        self.fails(TooMany("flips", 10), with_waiting(1, 0, [0] * 11).may_lie)
        self.same(with_waiting(61 * 6 + 1, 0, range(0, 367, 61)).may_lie()[-1], sum(2 ** bit for bit in range(0, 367, 61)))

    def test_no_phases(self):
        device = with_waiting(3, 1, [1, 2])
        self.same((device.run([]), device.waiting, device.reached, device.pulled), (7, (), 2, 0))
        self.same((device.run(()), device.reached), (7, 2))
        self.same((device.barrier(), device.cut([]), device.pulled), (0, 7, 1))
        for many in (0, -1, 1):
            self.fails(BadNumber("many"), device.run_cut, [], many, [])

    def test_equal(self):
        one, other = with_waiting(3, 1, [2]), Device(3, 1)
        self.same(one == other, False)
        other.cut([])
        other.flip(2)
        self.same(one == other, True)
        self.same(one != other, False)
        for value in (Device(4, 1), Device(3, 0), with_waiting(3, 1, [1]), with_waiting(3, 1, [2, 2]), None, "3 1 2",
                      with_waiting(4, 1, [2]), with_waiting(3, 0, [2]), (3, 1, (2,)), Device):
            self.same(one == value, False)
            self.same(value == one, False)
        self.same(with_waiting(3, 1, [1, 2]) == with_waiting(3, 1, [2, 1]), False)

    def test_copies_go_on_by_themselves(self):
        device = with_waiting(3, 1, [0, 1])
        device.cut([1])
        device.flip(2)
        other = device.copy()
        self.assertIs(type(other), Device)
        self.same(told_of(other), (3, 3, (2,), 1, 1))
        device.flip(0)
        self.same(told_of(other), (3, 3, (2,), 1, 1))
        other.flip(1)
        other.barrier()
        self.same(told_of(device), (3, 3, (2, 0), 1, 1))
        self.same(told_of(other), (3, 5, (), 3, 1))

    def test_many_flips(self):
        device = Device(400, 0)
        with self.in_short():
            for at in range(20000):
                device.flip(at % 400)
            self.same(device.cut(list(range(20000))), 0)
            self.same(device.run([list(range(400))] * 101), 2 ** 400 - 1)
        self.same(told_of(device), (400, 2 ** 400 - 1, (), 20000 + 101 * 400, 1))


class Texts(Case):
    def test_text(self):
        for device, text in ((Device(1, 0), "1 0"), (with_waiting(3, 1, [1, 2]), "3 1 1 2"),
                             (with_waiting(400, 2 ** 400 - 1, [399, 0, 399]), f"400 {2 ** 400 - 1} 399 0 399")):
            self.same(str(device), text)
            told = Device.read(text=text)
            self.assertIs(type(told), Device)
            self.same(told_of(told), told_of(device))
            self.same(told == device, True)

    def test_what_was_reached_is_not_told(self):
        device = with_waiting(3, 1, [1, 2])
        device.cut([0])
        device.flip(0)
        self.same(str(device), "3 3 0")
        self.same(told_of(device.read(str(device))), (3, 3, (0,), 0, 0))
        self.same(Device.read(str(device)) == device, True)

    def test_wrong(self):
        for value in NO_STRINGS + (Device(3, 1),):
            self.fails(BadText(0, 0), Device.read, value)
        # A further item is a flip that waits, so just the empty one cannot stand there.
        for text in ("3 1 1 2", "1 0", "400 5 399", "8 0 7 7 7"):
            for bent, item in texts_bent(text):
                self.fails(BadText(0, item), Device.read, bent)
        for text, item in (("", 0), ("0 0", 0), ("401 0", 0), ("3", 1), ("3 8", 1), ("3 -1", 1), ("1 2", 1), ("3 7 3", 2),
                           ("3 7 0 3", 3), ("3 7 0 -1", 3), ("401 8 9", 0), ("3 8 9", 1), (f"400 {2 ** 400}", 1),
                           ("3 1 2 | 1", 3), ("3 1 -", 2), ("3 1 2 3 1", 3)):
            self.fails(BadText(0, item), Device.read, text)


class Errors(Case):
    """Behind each error the device is what it was."""

    def fails_and_stays(self, error, name, *told):
        device = with_waiting(3, 5, [1, 1, 2])
        device.run([[0], [2, 0]])
        device.cut([])
        for bit in (1, 1, 2):
            device.flip(bit)
        was = told_of(device)
        self.fails(error, getattr(device, name), *told)
        self.same(told_of(device), was)
        self.same(was, (3, 5, (1, 1, 2), 6, 1))

    def test_made(self):
        for bits in NO_INTEGERS + (0, -1, 401, 2 ** 70):
            self.fails(BadNumber("bits"), Device, bits, 0)
            self.fails(BadNumber("bits"), Device, bits, None)
        for bits in (1, 3, 400):
            for word in NO_INTEGERS + (-1, 2 ** bits, 2 ** 401):
                self.fails(BadWord("word"), Device, bits, word)

    def test_flips(self):
        for bit in NO_INTEGERS + (-1, 3, 4, 400, 2 ** 70):
            self.fails_and_stays(BadNumber("bit"), "flip", bit)

    def test_cuts(self):
        for lot in BAD_LOTS + ([0, 0],):
            self.fails_and_stays(BadBits("lot"), "cut", lot)
        for lot in ([3], [0, 3], (20000,), [2, 1, 0, 3]):
            self.fails_and_stays(Misfit("lot"), "cut", lot)
        self.fails(Misfit("lot"), Device(3, 0).cut, [0])

    def test_runs(self):
        for phases in BAD_PHASES:
            self.fails_and_stays(BadPhases("phases"), "run", phases)
            self.fails_and_stays(BadPhases("phases"), "run_cut", phases, None, None)
        for phases in ([[3]], [[0], [1, 3]], [[0, 20000]], ([2], (3,), [0])):
            self.fails_and_stays(Misfit("phases"), "run", phases)
            self.fails_and_stays(Misfit("phases"), "run_cut", phases, 0, [])
            self.fails_and_stays(Misfit("phases"), "run_cut", phases, 0, [9])
            self.fails_and_stays(Misfit("phases"), "run_cut", phases, len(phases) - 1, [9])
        self.same(Device(4, 0).run([[0], [1, 3]]), 11)

    def test_cuts_in_runs(self):
        phases = [[0], [2, 1], [0, 1, 2]]
        for many in NO_INTEGERS + (-1, 3, 4, 2 ** 70):
            self.fails_and_stays(BadNumber("many"), "run_cut", phases, many, None)
            self.fails_and_stays(BadNumber("many"), "run_cut", [[3]], 1, [9])
        for lot in BAD_LOTS:
            self.fails_and_stays(BadBits("lot"), "run_cut", phases, 2, lot)
            self.fails_and_stays(BadBits("lot"), "run_cut", [[3]], 0, lot)
        for many in range(3):
            self.fails_and_stays(Misfit("lot"), "run_cut", phases, many, [many + 1])
            self.fails_and_stays(Misfit("lot"), "run_cut", phases, many, [0, 20000])

    def test_ten_flips(self):
        device = with_waiting(3, 0, [0] * 11)
        self.fails(TooMany("flips", 10), device.may_lie)
        self.same(told_of(device), (3, 0, (0,) * 11, 0, 0))

    def test_what_is_passed_stays(self):
        device, phases, lot = Device(3, 0), [[2, 0], [1]], [1, 0]
        device.run(phases)
        device.run_cut(phases, 0, lot)
        for bit in (2, 1):
            device.flip(bit)
        device.cut(lot)
        self.same((phases, lot), ([[2, 0], [1]], [1, 0]))


if __name__ == "__main__":
    unittest.main()
