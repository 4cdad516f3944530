"""Devices: memory in which flips that are asked for wait, up to a barrier, or a cut that loses some of them."""

from oneflip.checks import is_within, need_lot, need_number, need_phases
from oneflip.errors import BadWord, Misfit, TooMany
from oneflip.phases import MOST_FLIPS, flips_of_lot, unlike_words, words_by_lots
from oneflip.texts import integer_at, items_of
from oneflip.words import flipped_often

MOST_BITS = 400


class Device:
    """So many bits, in which a word lies, and flips that wait."""

    def __init__(self, bits, word):
        need_number(bits, "bits", 1, MOST_BITS)
        if not is_within(word, 0, _last_word(bits)):
            raise BadWord("word")
        self.bits = bits
        self.lies = word
        self.reached = 0
        self.pulled = 0
        self._flips = []

    def __eq__(self, other):
        return (isinstance(other, Device) and self.bits == other.bits and self.lies == other.lies
                and self._flips == other._flips)

    def __str__(self):
        return " ".join([str(number) for number in [self.bits, self.lies] + self._flips])

    @staticmethod
    def read(text):
        """The Device whose text this is, with nothing reached and no plug pulled."""
        items = items_of(text)
        bits = integer_at(items, 0, 1, MOST_BITS)
        device = Device(bits, integer_at(items, 1, 0, _last_word(bits)))
        for at in range(2, len(items)):
            device.flip(integer_at(items, at, 0, bits - 1))
        return device

    @property
    def waiting(self):
        """The bits whose flips wait, in the order in which they were asked for."""
        return tuple(self._flips)

    def flip(self, bit):
        """The flip of a bit waits, behind the others; returns how many wait then."""
        need_number(bit, "bit", 0, self.bits - 1)
        self._flips.append(bit)
        return len(self._flips)

    def barrier(self):
        """All flips that wait reach memory; returns how many."""
        return self._reach(self._flips)

    def cut(self, lot):
        """The plug is pulled: of the flips that wait just those of a lot reach memory; returns what lies there."""
        need_lot(lot, "lot")
        self._reach(flips_of_lot(self._flips, lot))
        self.pulled += 1
        return self.lies

    def look(self):
        """The word as which it reads."""
        return flipped_often(self.lies, self._flips)

    def may_lie(self):
        """All words that can lie there if the plug is pulled now, ascending."""
        if len(self._flips) > MOST_FLIPS:
            raise TooMany("flips", MOST_FLIPS)
        return unlike_words(words_by_lots(self.lies, self._flips))

    def run(self, phases):
        """A barrier, then phases, with a barrier behind each; returns what lies there then."""
        need_phases(phases, "phases")
        self._need_bits(phases)
        return self._run_all(phases)

    def run_cut(self, phases, many, lot):
        """A barrier, then so many phases likewise, and a cut in the next one; returns what lies there then."""
        need_phases(phases, "phases")
        need_number(many, "many", 0, len(phases) - 1)
        need_lot(lot, "lot")
        self._need_bits(phases)
        # The flips of the lot are told ahead of all others, so that an error changes nothing.
        flips = flips_of_lot(sorted(phases[many]), lot)
        self._run_all(phases[:many])
        self._reach(flips)
        self.pulled += 1
        return self.lies

    def copy(self):
        """A Device with all that this one has, which goes on by itself."""
        other = Device(self.bits, self.lies)
        other.reached = self.reached
        other.pulled = self.pulled
        other._flips = list(self._flips)
        return other

    def _need_bits(self, phases):
        if [phase for phase in phases if max(phase) >= self.bits]:
            raise Misfit("phases")

    def _run_all(self, phases):
        self.barrier()
        for phase in phases:
            self._reach(phase)
        return self.lies

    def _reach(self, flips):
        """These flips reach memory, and none waits any more; returns how many they are."""
        self.lies = flipped_often(self.lies, flips)
        self.reached += len(flips)
        self._flips = []
        return len(flips)


def _last_word(bits):
    return (1 << bits) - 1
