"""Codes: layouts for many values, each of which may change to each other one, too great to be listed."""

from oneflip.checks import is_within, need_number
from oneflip.errors import BadCode, BadWord
from oneflip.texts import integer_at, items_of, need_end

LEAST_BASE = 2
MOST_BASE = 3
MOST_DOUBLES = 199
MOST_VALUES = 1 << 200
# What the words of the base bits tell, and the flips that lead from each of them to each base value.
BASE_VALUES = {2: (0, 1), 3: (0, 0, 1, 2)}
BASE_ROADS = {
    2: (((), (0,)), ((0,), ())),
    3: (((), (1,), (0, 1)), ((), (0, 1), (1,)), ((1,), (), (0,)), ((1,), (0,), ())),
}


class Code:
    """A base, 2 or 3, and so many doubles, each of which has a lower and an upper bit."""

    def __init__(self, base, doubles):
        if not is_within(base, LEAST_BASE, MOST_BASE):
            raise BadCode("base")
        if not is_within(doubles, 0, MOST_DOUBLES):
            raise BadCode("doubles")
        self.base = base
        self.doubles = doubles
        self.many = base << doubles
        self.bits = base - 1 + 2 * doubles

    def __eq__(self, other):
        return isinstance(other, Code) and self.base == other.base and self.doubles == other.doubles

    def __str__(self):
        return f"{self.base} {self.doubles}"

    @staticmethod
    def read(text):
        """The Code whose text this is."""
        items = items_of(text)
        base = integer_at(items, 0, LEAST_BASE, MOST_BASE)
        doubles = integer_at(items, 1, 0, MOST_DOUBLES)
        need_end(items, 2)
        return Code(base, doubles)


def need_code(value):
    """Raises BadCode("code") for what is no Code."""
    if not isinstance(value, Code):
        raise BadCode("code")


def _need_word_of(code, word):
    if not is_within(word, 0, (1 << code.bits) - 1):
        raise BadWord("word")


def meant_by(code, word):
    """The value that a word means."""
    need_code(code)
    _need_word_of(code, word)
    value = BASE_VALUES[code.base][_base_word(code, word)]
    for double, bit in enumerate(_counting_bits(code, word)):
        value = value + (((word >> bit) & 1) * code.base << double)
    return value


def first_word(code, value):
    """The word that means a value, both bits of each double being alike, its base bits being the least."""
    need_code(code)
    need_number(value, "value", 0, code.many - 1)
    word = BASE_VALUES[code.base].index(value % code.base)
    for double, lower in enumerate(_lower_bits(code)):
        if (value // code.base >> double) & 1:
            word = word | (3 << lower)
    return word


def road_to(code, word, value):
    """The told way from a word to a value: the bits to flip, one behind another."""
    need_code(code)
    _need_word_of(code, word)
    need_number(value, "value", 0, code.many - 1)
    row = BASE_ROADS[code.base][_base_word(code, word)][value % code.base]
    counting = _counting_bits(code, word)
    for double, lower in enumerate(_lower_bits(code)):
        counts = counting[double]
        wanted = (value // code.base >> double) & 1
        row = _with_double(row, word, counts, 2 * lower + 1 - counts, wanted)
    return row


def code_for(values):
    """The Code of fewest bits that has so many values or more."""
    need_number(values, "values", LEAST_BASE, MOST_VALUES)
    doubles = 0
    # Base 3 has one bit more than base 2, and one bit less than base 2 with one more double.
    while MOST_BASE << doubles < values:
        doubles += 1
    return Code(LEAST_BASE if LEAST_BASE << doubles >= values else MOST_BASE, doubles)


def _base_word(code, word):
    return word & ((1 << (code.base - 1)) - 1)


def _lower_bits(code):
    return list(range(code.base - 1, code.bits, 2))


def _counting_bits(code, word):
    """For each double its bit that counts at a word."""
    base_word = _base_word(code, word)
    odd = (base_word ^ (base_word >> 1)) & 1
    counting = []
    for lower in _lower_bits(code):
        counting.append(lower if odd else lower + 1)
        odd = odd ^ ((word >> lower) & 1) ^ ((word >> (lower + 1)) & 1)
    return counting


def _with_double(row, word, counts, idle, wanted):
    """The flips for the bits below a double, with those of the double put into them."""
    is_set = (word >> counts) & 1
    idle_set = (word >> idle) & 1
    first = ()
    if len(row) > 1 and idle_set != is_set:
        first = (idle,)
        idle_set = is_set
    # Each flip below the double exchanges which of its bits counts.
    behind, behind_set = (idle, idle_set) if len(row) & 1 else (counts, is_set)
    last = () if behind_set == wanted else (behind,)
    # Without flips below there is no last one, and just the bit that counts is flipped, if at all.
    return first + row[:-1] + last + row[-1:]
