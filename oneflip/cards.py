"""Cards, which tell machines by names, and are written in lines."""

from oneflip.checks import is_list
from oneflip.errors import BadLine, BadMachine, BadText, Misfit, NoName, Twice
from oneflip.fits import fitted
from oneflip.machines import Machine
from oneflip.names import is_name, name_at, need_name_of, need_names, need_unlike
from oneflip.texts import items_of, need_end, need_item

MOST_NAMES = 24
FIRST_ITEM = "states"
BETWEEN = ">"


class Card:
    """Names of states, changes between them, and the layout that is fitted to this machine."""

    def __init__(self, names, changes):
        need_names(names, MOST_NAMES)
        if not is_list(changes) or not all([_is_change(change) for change in changes]):
            raise BadMachine("changes")
        need_unlike(names)
        pairs = [tuple(pair) for pair in changes]
        for name in [name for pair in pairs for name in pair]:
            need_name_of(names, name)
        if [old for old, new in pairs if old == new]:
            raise Misfit("changes")
        need_unlike(pairs)
        self.names = tuple(names)
        self.changes = tuple(pairs)
        places = {name: place for place, name in enumerate(names)}
        self.machine = Machine(len(names), [(places[old], places[new]) for old, new in pairs])
        self.layout = fitted(self.machine)

    def __eq__(self, other):
        return isinstance(other, Card) and self.names == other.names and self.changes == other.changes

    def lines(self):
        """The lines of the card."""
        first = " ".join([FIRST_ITEM] + list(self.names))
        return tuple([first] + [f"{old} {BETWEEN} {new}" for old, new in self.changes])

    @staticmethod
    def read(lines):
        """The Card whose lines these are."""
        if not is_list(lines) or len(lines) == 0 or not all([isinstance(told, str) for told in lines]):
            raise BadText(0, 0)
        names = _told_by(lines, 0, (), ())
        changes = []
        for number in range(1, len(lines)):
            changes.append(_told_by(lines, number, names, changes))
        return Card(names, changes)


def _is_change(value):
    return is_list(value) and len(value) == 2 and all([is_name(name) for name in value])


def _told_by(lines, number, names, ahead):
    """The names that the first line tells, or the change that another one tells; raises BadLine for a wrong line."""
    try:
        if number == 0:
            return _names_of(lines[0])
        return _change_of(lines[number], names, ahead)
    except BadText as wrong:
        raise BadLine(number, BadText(0, wrong.item))
    except Twice as double:
        raise BadLine(number, Twice(double.value))
    except NoName as no_name:
        raise BadLine(number, NoName(no_name.value))
    except Misfit as misfit:
        raise BadLine(number, Misfit(misfit.part))


def _names_of(told):
    """The names that the first line tells."""
    items = items_of(told)
    need_item(items, 0, FIRST_ITEM)
    behind = 1 + MOST_NAMES
    names = [name_at(items, at) for at in range(1, max(2, min(len(items), behind)))]
    need_end(items, behind)
    need_unlike(names)
    return names


def _change_of(told, names, ahead):
    """The change that a line tells; it must be none of those ahead."""
    items = items_of(told)
    old = name_at(items, 0)
    need_item(items, 1, BETWEEN)
    new = name_at(items, 2)
    need_end(items, 3)
    need_name_of(names, old)
    need_name_of(names, new)
    if old == new:
        raise Misfit("changes")
    if (old, new) in ahead:
        raise Twice((old, new))
    return old, new
