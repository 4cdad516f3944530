"""Bounds: how few bits are enough by counting, why fewer are not, and how few flips there can be."""

from math import comb

from oneflip.checks import need_number
from oneflip.codes import code_for
from oneflip.errors import Misfit
from oneflip.kept import kept_of
from oneflip.layouts import pieces_of
from oneflip.papers import Paper
from oneflip.words import pairs_among

MOST_STATES = 1 << 199
MOST_BITS = 400


class Few(Paper):
    """So many words there are, which are fewer than the states."""

    def __init__(self, words):
        Paper.__init__(self, "few", words)
        self.words = self.parts[0]


class Tight(Paper):
    """Pairs inside and pairs across that are wanted, each counted twice, which are more than the most there are."""

    def __init__(self, inside, across, most):
        Paper.__init__(self, "tight", inside, across, most)
        self.inside = self.parts[0]
        self.across = self.parts[1]
        self.most = self.parts[2]


def least_bits(states, leads):
    """The fewest bits that are enough by counting."""
    _need_counts(states, leads)
    return fewest_enough(states, leads)


def why_not(states, leads, bits):
    """None if so many bits are enough by counting, otherwise the Few or the Tight that shows that they are not."""
    _need_counts(states, leads)
    need_number(bits, "bits", 0, MOST_BITS)
    if _are_enough(states, leads, bits):
        return None
    words = 1 << bits
    if words < states:
        return Few(words)
    return Tight(2 * (words - states), states * leads, bits * words)


def between(values):
    """The fewest bits that are enough by counting for any to any of so many values, and the bits of their code."""
    need_number(values, "values", 2, MOST_STATES)
    return fewest_enough(values, values - 1), code_for(values).bits


def flips_needed(values, bits):
    """The least number of flips within which a word of so many bits can have so many words, itself one of them."""
    need_number(values, "values", 1, MOST_STATES)
    need_number(bits, "bits", 0, MOST_BITS)
    if values > 1 << bits:
        raise Misfit("values")
    flips = 0
    words = 1
    while words < values:
        flips += 1
        words = words + comb(bits, flips)
    return flips


def counted(layout, machine):
    """The four numbers of kept pieces, of kept words, and of pairs of these inside and across."""
    kept = kept_of(layout, machine)
    pieces = [words for _, words in pieces_of(layout) if words[0] in kept]
    inside = sum([pairs_among(words) for words in pieces])
    return len(pieces), len(kept), inside, pairs_among(kept) - inside


def fewest_enough(states, leads):
    """The fewest bits that are enough by counting, for numbers of any size."""
    bits = (states - 1).bit_length()
    while not _are_enough(states, leads, bits):
        bits += 1
    return bits


def _need_counts(states, leads):
    need_number(states, "states", 1, MOST_STATES)
    need_number(leads, "leads", 0, states - 1)


def _are_enough(states, leads, bits):
    words = 1 << bits
    if states > words:
        return False
    return leads < 2 or states * leads + 2 * (words - states) <= bits * words
