"""Layouts as tables of signs, in which neighbours stand side by side, and words of stores in words."""

from oneflip.checks import are_unlike
from oneflip.errors import BadBits
from oneflip.layouts import need_layout
from oneflip.stores import is_open, open_bit, rows_in, values_in
from oneflip.words import gray

SIGNS = "0123456789abcdefghijklmnopqrstuvwxyzABCDEFGHIJKLMNOPQRSTUVWXYZ+="
NOTHING = "."


def table_of(layout, words=None):
    """The rows of the table of a layout; with words, just these have their signs."""
    need_layout(layout, "layout")
    if words is not None and not are_unlike(words, 0, len(layout.means) - 1):
        raise BadBits("words")
    signs = [NOTHING if state is None else SIGNS[state] for state in layout.means]
    if words is not None:
        signs = [sign if word in words else NOTHING for word, sign in enumerate(signs)]
    columns = (layout.bits + 1) // 2
    return tuple([_row_of(signs, columns, row) for row in range(1 << (layout.bits - columns))])


def strip_of(store, word):
    """The word of a store in words: its cells, open or shut, and the rows of its entry."""
    steering = "open" if is_open(store, word) else "shut"
    # Shut, and with noughts in its entry, the word means what lies in its cells.
    cells = values_in(store, word & ((1 << open_bit(store)) - 1))
    entry = [f"entry {place} {content}" for place, content in rows_in(store, word)]
    return tuple([" ".join(["cells"] + [str(value) for value in cells]), steering] + entry)


def _row_of(signs, columns, row):
    ahead = gray(row) << columns
    return "".join([signs[ahead + gray(column)] for column in range(1 << columns)])
