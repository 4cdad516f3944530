"""Reading texts: items with single blanks between, of which the first that cannot stand is told."""

from oneflip.checks import is_within
from oneflip.errors import BadText

MOST_DIGITS = 140
# Python does not write integers of very many digits at once.
PIECE_DIGITS = 64
PIECE = 10 ** 64


def items_of(text):
    """The items of a text; an empty one is an item, too."""
    if not isinstance(text, str):
        raise BadText(0, 0)
    return text.split(" ")


def integer_of(item):
    """The integer that an item writes, None if it writes none."""
    digits = item.removeprefix("-")
    # Python takes other digits than 0 to 9 for digits, too.
    if not (digits.isascii() and digits.isdigit()) or len(digits) > MOST_DIGITS:
        return None
    if digits.startswith("0") and item != "0":
        return None
    return int(item)


def digits_of(number):
    """How an integer from 0 on, of any size, is written."""
    pieces = []
    rest = number
    while rest >= PIECE:
        pieces.append(str(rest % PIECE).zfill(PIECE_DIGITS))
        rest = rest // PIECE
    pieces.append(str(rest))
    return "".join(list(reversed(pieces)))


def item_at(items, at):
    """The item at a place; raises if it is missing."""
    if at >= len(items):
        raise BadText(0, len(items))
    return items[at]


def integer_at(items, at, least, most):
    """The integer from least to most that is written at a place; raises if it is none, or missing."""
    value = integer_of(item_at(items, at))
    if not is_within(value, least, most):
        raise BadText(0, at)
    return value


def need_item(items, at, wanted):
    """Raises if the item at a place is another one than what is wanted there, or missing."""
    if item_at(items, at) != wanted:
        raise BadText(0, at)


def need_end(items, at):
    """Raises if there is an item at a place, as it is one too many."""
    if at < len(items):
        raise BadText(0, at)
