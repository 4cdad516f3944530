"""Words of bits, which are integers: flips, neighbours, lots that are joined by flips, Gray's order."""

from oneflip.checks import are_unlike, lot_of, need_number, need_word
from oneflip.errors import BadWord, Misfit, TooMany

MOST_WORDS = 1024
MOST_MANY = 400


def flipped(word, bits):
    """The word with each bit of a lot of bits flipped."""
    need_word(word, "word")
    return flipped_often(word, lot_of(bits))


def flipped_often(word, bits):
    """The word with bits flipped, each as often as it stands there."""
    there = word
    for bit in bits:
        there = there ^ (1 << bit)
    return there


def differing(one, other):
    """The bits in which two words differ, ascending."""
    need_word(one, "one")
    need_word(other, "other")
    return _bits_of(one ^ other)


def _bits_of(word):
    # One pass over the signs is faster than a shift of a long word for each bit.
    signs = f"{word:b}"[::-1]
    return tuple([bit for bit, sign in enumerate(signs) if sign == "1"])


def neighbours_of(word, many):
    """The neighbours of a word among the words of so many bits, by the bit in which they differ."""
    need_word(word, "word")
    need_number(many, "many", 1, MOST_MANY)
    if word >> many:
        raise Misfit("word")
    return tuple([word ^ (1 << bit) for bit in range(many)])


def ones_in(number):
    """How many bits of a number are 1."""
    need_number(number, "number", 0, None)
    return f"{number:b}".count("1")


def most_pairs(many):
    """How many pairs of neighbours there are among the words below many."""
    need_number(many, "many", 0, None)
    pairs = 0
    # The pairs are the ones of all words below many. Those words fall into blocks: one block for
    # each bit of many that is 1, its words being like many above this bit, and having 0 there.
    for above, bit in enumerate(reversed(list(_bits_of(many)))):
        pairs = pairs + (above << bit) + ((bit << bit) >> 1)
    return pairs


def pairs_among(words):
    """How many pairs of neighbours there are among some words."""
    _need_words(words)
    return len(_pairs_of(words))


def lots_of(words):
    """The lots, joined by flips, into which some words fall, ascending."""
    _need_words(words)
    beside = {word: [] for word in sorted(words)}
    for one, other in _pairs_of(words):
        beside[one].append(other)
        beside[other].append(one)
    lots = []
    lotted = {}
    for word in beside:
        if word not in lotted:
            lot = _reached(word, beside)
            lotted.update({item: True for item in lot})
            lots.append(tuple(lot))
    return tuple(lots)


def gray(number):
    """The word at a place of Gray's order."""
    need_number(number, "number", 0, None)
    return number ^ (number >> 1)


def place_of(word):
    """The place of a word in Gray's order."""
    need_word(word, "word")
    place = word
    shift = 1
    # Bit b of the place is odd if an odd number of the word's bits from b on are 1: sums that double.
    while shift < word.bit_length():
        place = place ^ (place >> shift)
        shift = 2 * shift
    return place


def _need_words(words):
    if not are_unlike(words, 0, None):
        raise BadWord("words")
    if len(words) > MOST_WORDS:
        raise TooMany("words", MOST_WORDS)


def _pairs_of(words):
    """All pairs of neighbours among some words."""
    by_ones = {}
    for word in words:
        by_ones.setdefault(ones_in(word), []).append(word)
    pairs = []
    # Of two neighbours one has just one 1 more: so only such words are compared.
    for ones in by_ones:
        more = by_ones.get(ones + 1, [])
        for one in by_ones[ones]:
            pairs.extend([(one, other) for other in more if _is_one_bit(one ^ other)])
    return pairs


def _is_one_bit(word):
    return word & (word - 1) == 0


def _reached(first, beside):
    """All words to which one comes from the first one by words that stand beside one another, ascending."""
    reached = {first: True}
    waiting = [first]
    while waiting:
        here = waiting.pop()
        for there in beside[here]:
            if there not in reached:
                reached[there] = True
                waiting.append(there)
    return sorted(reached)
