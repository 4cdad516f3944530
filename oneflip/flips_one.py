"""Layouts in which each change is one flip: what a word means comes of its bits by exclusive or."""

from oneflip.checks import need_number, need_word
from oneflip.errors import Misfit
from oneflip.layouts import Layout
from oneflip.words import differing

MOST_LISTED = 3
MOST_SIZE = 8
MOST_VALUE = 255


def one_flip_layout(size):
    """The layout for 2 ** size values in 2 ** size - 1 bits."""
    need_number(size, "size", 1, MOST_LISTED)
    bits = _bits_for(size)
    return Layout(bits, [_value_of(word) for word in range(1 << bits)])


def value_by_flips(word, size):
    """The value of a word of 2 ** size - 1 bits."""
    need_word(word, "word")
    need_number(size, "size", 1, MOST_SIZE)
    _need_room(word, size)
    return _value_of(word)


def flip_to(word, size, value):
    """The bit whose flip leads from a word to one of a value, None if it has this value."""
    need_word(word, "word")
    need_number(size, "size", 1, MOST_SIZE)
    need_number(value, "value", 0, MOST_VALUE)
    _need_room(word, size)
    if value >> size:
        raise Misfit("value")
    apart = _value_of(word) ^ value
    return apart - 1 if apart else None


def _bits_for(size):
    return (1 << size) - 1


def _value_of(word):
    value = 0
    for bit in differing(word, 0):
        value = value ^ (bit + 1)
    return value


def _need_room(word, size):
    if word >> _bits_for(size):
        raise Misfit("word")
