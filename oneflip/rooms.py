"""Rooms: how many changes a store has, how few bits are enough for it by counting, how many it has to spare."""

from math import comb

from oneflip.bounds import fewest_enough
from oneflip.checks import need_number
from oneflip.stores import MOST_CELLS, MOST_SIZE, Store, most_rows


def changes_of(cells, size, most):
    """How many other states a deed can lead to."""
    _need_room(cells, size, most)
    changes = 0
    contents = 1
    for many in range(1, most + 1):
        contents = contents * ((1 << size) - 1)
        changes = changes + comb(cells, many) * contents
    return changes


def store_least(cells, size, most):
    """The fewest bits that are enough by counting for all states and changes of a store."""
    leads = changes_of(cells, size, most)
    return fewest_enough(1 << (cells * size), leads)


def spare_bits(cells, size, most):
    """By how many bits a store has more than are enough by counting."""
    least = store_least(cells, size, most)
    return Store(cells, size, most).bits - least


def _need_room(cells, size, most):
    need_number(cells, "cells", 1, MOST_CELLS)
    need_number(size, "size", 1, MOST_SIZE)
    need_number(most, "most", 1, most_rows(cells))
