"""Names: strings of 1 to 12 signs, each of them one of a to z or 0 to 9."""

from oneflip.checks import is_list
from oneflip.errors import BadBook, BadText, NoName, Twice
from oneflip.texts import item_at

SIGNS = "abcdefghijklmnopqrstuvwxyz0123456789"
MOST_SIGNS = 12


def is_name(value):
    """Whether any value is a name."""
    if not isinstance(value, str) or not 1 <= len(value) <= MOST_SIGNS:
        return False
    return all([sign in SIGNS for sign in value])


def name_at(items, at):
    """The name that is written at a place of a text; raises if it is none, or missing."""
    item = item_at(items, at)
    if not is_name(item):
        raise BadText(0, at)
    return item


def need_names(value, most):
    """Raises BadBook("names") for what is no list of one to most names."""
    if not is_list(value) or not 1 <= len(value) <= most or not all([is_name(item) for item in value]):
        raise BadBook("names")


def need_unlike(values):
    """Raises Twice for the first of some names, or of some pairs of names, that equals one ahead of it."""
    seen = {}
    for value in values:
        if value in seen:
            raise Twice(value)
        seen[value] = True


def need_name_of(names, value):
    """Raises NoName(value) for any value that is none of some names."""
    if not is_name(value) or value not in names:
        raise NoName(value)
