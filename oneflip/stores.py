"""Stores: cells, and an entry beside them by which a deed changes some of them at once."""

from oneflip.checks import is_list, is_within
from oneflip.errors import BadDeed, BadStore, BadWord
from oneflip.texts import integer_at, items_of, need_end
from oneflip.words import differing

MOST_CELLS = 256
MOST_SIZE = 48
MOST_ROWS = 8


class Store:
    """So many cells of so many bits, of which at most so many change at once."""

    def __init__(self, cells, size, most):
        if not is_within(cells, 1, MOST_CELLS):
            raise BadStore("cells")
        if not is_within(size, 1, MOST_SIZE):
            raise BadStore("size")
        if not is_within(most, 1, most_rows(cells)):
            raise BadStore("most")
        self.cells = cells
        self.size = size
        self.most = most
        self.place_bits = (cells - 1).bit_length()
        self.bits = cells * size + 1 + most * (self.place_bits + size)

    def __eq__(self, other):
        return (isinstance(other, Store) and self.cells == other.cells and self.size == other.size
                and self.most == other.most)

    def __str__(self):
        return f"{self.cells} {self.size} {self.most}"

    @staticmethod
    def read(text):
        """The Store whose text this is."""
        items = items_of(text)
        cells = integer_at(items, 0, 1, MOST_CELLS)
        size = integer_at(items, 1, 1, MOST_SIZE)
        most = integer_at(items, 2, 1, most_rows(cells))
        need_end(items, 3)
        return Store(cells, size, most)


def most_rows(cells):
    """The greatest most that a store of so many cells can have."""
    return min(MOST_ROWS, cells)


def need_store(value):
    """Raises BadStore("store") for what is no Store."""
    if not isinstance(value, Store):
        raise BadStore("store")


def need_word_in(store, word):
    """Raises BadWord("word") for what is no word of the store."""
    if not is_within(word, 0, (1 << store.bits) - 1):
        raise BadWord("word")


def need_values(store, values):
    """Raises BadDeed("values") for what is no list of values of the store, one for each cell."""
    if not is_list(values) or len(values) != store.cells or not all([_is_value(store, item) for item in values]):
        raise BadDeed("values")


def need_deed(store, deed):
    """Raises BadDeed("deed") for what is no deed of the store."""
    if not is_list(deed) or not 1 <= len(deed) <= store.most or not all([_is_gift(store, item) for item in deed]):
        raise BadDeed("deed")
    if len({cell for cell, _ in deed}) != len(deed):
        raise BadDeed("deed")


def values_in(store, word):
    """The values that a word means."""
    need_store(store)
    need_word_in(store, word)
    values = _numbers_in(word, store.cells, store.size)
    if _has_open(store, word):
        for place, content in _rows_of(store, word):
            if place < store.cells:
                values[place] = content
    return tuple(values)


def is_open(store, word):
    """Whether a word is open."""
    need_store(store)
    need_word_in(store, word)
    return _has_open(store, word)


def rows_in(store, word):
    """The pairs (place, content) of the entry of a word, whatever it is."""
    need_store(store)
    need_word_in(store, word)
    return _rows_of(store, word)


def word_for(store, values):
    """The shut word that means some values, its entry noughts."""
    need_store(store)
    need_values(store, values)
    return _word_of_cells(store, values)


def mend_plan(store, word):
    """The phases that mend a word, each an ascending tuple."""
    need_store(store)
    need_word_in(store, word)
    if not _has_open(store, word):
        return ()
    bit = open_bit(store)
    phases = [differing(word ^ (1 << bit), _mended(store, word)), (bit,)]
    return tuple([phase for phase in phases if phase])


def deed_plan(store, word, deed):
    """The phases of a deed, those that mend the word among them, each an ascending tuple."""
    values = done_in(store, word, deed)
    bit = open_bit(store)
    mended = _mended(store, word)
    rows = _word_of_rows(store, deed)
    ready = _word_of_cells(store, values_in(store, word)) | rows
    done = _word_of_cells(store, values) | rows
    phases = [*mend_plan(store, word), differing(mended, ready), (bit,), differing(ready, done), (bit,)]
    return tuple([phase for phase in phases if phase])


def done_in(store, word, deed):
    """The values behind a deed."""
    need_store(store)
    need_word_in(store, word)
    need_deed(store, deed)
    values = list(values_in(store, word))
    for cell, value in deed:
        values[cell] = value
    return tuple(values)


def open_bit(store):
    """The open bit of a store, which is the first one behind its cells."""
    return store.cells * store.size


def _is_value(store, value):
    return is_within(value, 0, (1 << store.size) - 1)


def _is_gift(store, value):
    """Whether a value is a pair of a cell and a value for it."""
    if not is_list(value) or len(value) != 2:
        return False
    return is_within(value[0], 0, store.cells - 1) and _is_value(store, value[1])


def _has_open(store, word):
    return (word >> open_bit(store)) & 1 == 1


def _numbers_in(word, many, size):
    """So many numbers, each of so many bits, that stand one behind another in a word."""
    mask = (1 << size) - 1
    return [(word >> (at * size)) & mask for at in range(many)]


def _rows_of(store, word):
    rows = _numbers_in(word >> (open_bit(store) + 1), store.most, store.place_bits + store.size)
    # The place stands ahead of the content, so its bits are the lower ones.
    mask = (1 << store.place_bits) - 1
    return tuple([(row & mask, row >> store.place_bits) for row in rows])


def _word_of_cells(store, values):
    return sum([value << (cell * store.size) for cell, value in enumerate(values)])


def _word_of_rows(store, deed):
    """The word that has nothing but the rows that a deed wants."""
    pairs = sorted([(cell, value) for cell, value in deed])
    pairs = pairs + [pairs[-1]] * (store.most - len(pairs))
    size = store.place_bits + store.size
    rows = [place | (content << store.place_bits) for place, content in pairs]
    return sum([row << (at * size) for at, row in enumerate(rows)]) << (open_bit(store) + 1)


def _mended(store, word):
    """The word as it lies behind what mends it."""
    behind = open_bit(store) + 1
    return (word >> behind << behind) | _word_of_cells(store, values_in(store, word))
