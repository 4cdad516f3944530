"""Lines of books: clauses, and the worths that they leave."""

from oneflip.checks import is_list, is_within, need_number
from oneflip.errors import BadDeed, BadText, Misfit
from oneflip.names import name_at, need_name_of, need_names, need_unlike
from oneflip.stores import MOST_SIZE
from oneflip.texts import integer_at, item_at, items_of, need_item

MOST_NAMES = 32
BETWEEN = ","
# How many names, and how many numbers, stand behind the first item of each clause.
CLAUSES = {"put": (1, 1), "add": (1, 1), "take": (1, 1), "move": (2, 1), "swap": (2, 0), "copy": (2, 0),
           "need": (1, 1)}


def clauses_of(line):
    """The clauses of a line, each one the tuple of its items."""
    items = items_of(line)
    clauses = [_clause_at(items, 0)]
    at = len(clauses[0])
    while at < len(items):
        need_item(items, at, BETWEEN)
        clauses.append(_clause_at(items, at + 1))
        at = at + 1 + len(clauses[-1])
    return tuple(clauses)


def reckoned(line, names, size, worths):
    """The worths behind a line."""
    clauses = clauses_of(line)
    need_book_names(names)
    need_number(size, "size", 1, MOST_SIZE)
    _need_worths(worths, len(names), size)
    for name in _names_in(clauses):
        need_name_of(names, name)
    behind = {name: worth for name, worth in zip(names, worths)}
    for clause in clauses:
        _reckon(clause, behind, 1 << size)
    return tuple([behind[name] for name in names])


def need_book_names(names):
    """Raises for what is no list of names of a book, or if one of them stands there twice."""
    need_names(names, MOST_NAMES)
    need_unlike(names)


def _clause_at(items, at):
    """The clause that is written from a place on."""
    word = item_at(items, at)
    if word not in CLAUSES:
        raise BadText(0, at)
    names, numbers = CLAUSES[word]
    behind = at + 1 + names
    clause = [word] + [name_at(items, there) for there in range(at + 1, behind)]
    return tuple(clause + [integer_at(items, there, 0, None) for there in range(behind, behind + numbers)])


def _need_worths(worths, many, size):
    if not is_list(worths) or len(worths) != many:
        raise BadDeed("worths")
    if not all([is_within(worth, 0, (1 << size) - 1) for worth in worths]):
        raise BadDeed("worths")


def _names_in(clauses):
    """All items of some clauses that stand in the place of a name."""
    return [item for clause in clauses for item in clause[1:1 + CLAUSES[clause[0]][0]]]


def _reckon(clause, worths, limit):
    """What a clause does to the worths, which are a dict by names; they must stay below a limit."""
    word, one, other = clause[:3]
    if word == "put":
        _give(worths, one, other, limit)
    elif word == "add":
        _give(worths, one, worths[one] + other, limit)
    elif word == "take":
        _give(worths, one, worths[one] - other, limit)
    elif word == "move":
        _give(worths, one, worths[one] - clause[3], limit)
        _give(worths, other, worths[other] + clause[3], limit)
    elif word == "swap":
        worths[one], worths[other] = worths[other], worths[one]
    elif word == "copy":
        worths[other] = worths[one]
    elif worths[one] < other:
        raise Misfit("value")


def _give(worths, name, worth, limit):
    if not 0 <= worth < limit:
        raise Misfit("value")
    worths[name] = worth
