"""Whether papers about layouts are right, by looking at their pieces one by one."""

from oneflip.checks import are_unlike, is_integer, is_just, is_list, is_within
from oneflip.kept import Falls, Stands, need_fit, stands_for
from oneflip.layouts import piece_at, pieces_of, touched_by, words_for


def shows_layout(layout, machine, value):
    """Whether any value is the Stands of a layout that stands for the machine, or a right Falls."""
    need_fit(layout, machine)
    if isinstance(value, Stands):
        return stands_for(layout, machine) and is_just(value.pieces, pieces_of(layout))
    if isinstance(value, Falls):
        return _is_right_falls(layout, machine, value.strikes, value.lacks)
    return False


def _is_right_falls(layout, machine, strikes, lacks):
    if not is_list(strikes) or not are_unlike(lacks, 0, machine.states - 1):
        return False
    if not strikes and not lacks:
        return False
    struck = {}
    for strike in strikes:
        if not _is_right_strike(layout, machine, strike, struck):
            return False
        struck.update({word: True for word in piece_at(layout, strike[0])})
    return list(lacks) == sorted(lacks) and all([_is_lacking(layout, state, struck) for state in lacks])


def _is_right_strike(layout, machine, strike, struck):
    """Whether a value is a pair (word, state) that strikes a piece behind those that are struck already."""
    if not is_list(strike) or len(strike) != 2:
        return False
    word, state = strike
    if not is_within(word, 0, len(layout.means) - 1) or not is_integer(state):
        return False
    if (layout.means[word], state) not in machine.changes:
        return False
    if word in struck or word != piece_at(layout, word)[0]:
        return False
    return all([there in struck for there in touched_by(layout, word, state)])


def _is_lacking(layout, state, struck):
    return all([word in struck for word in words_for(layout, state)])
