"""Phases: lots of flips with barriers behind them, their texts, and what lies there when the plug is pulled."""

from oneflip.checks import MOST_BIT, lot_of, need_lot, need_number, need_phases, need_word
from oneflip.errors import BadText, Misfit, TooMany
from oneflip.texts import integer_at, items_of, need_end
from oneflip.words import flipped

MOST_FLIPS = 10
BAR = "|"
NO_PHASE = "-"


def phases_text(phases):
    """The text of phases."""
    need_phases(phases, "phases")
    if not phases:
        return NO_PHASE
    return " | ".join([" ".join([str(bit) for bit in sorted(phase)]) for phase in phases])


def phases_read(text):
    """The phases, ascending tuples, whose text this is."""
    items = items_of(text)
    if items[0] == NO_PHASE:
        need_end(items, 1)
        return ()
    phases = [[]]
    for at, item in enumerate(items):
        phase = phases[-1]
        if item == BAR and phase:
            phases.append([])
        else:
            phase.append(integer_at(items, at, phase[-1] + 1 if phase else 0, MOST_BIT))
    if not phases[-1]:
        raise BadText(0, len(items))
    return tuple([tuple(phase) for phase in phases])


def landed(word, phases, many, lot):
    """What lies there behind so many phases and, of the next one, the flips whose numbers are in a lot."""
    need_word(word, "word")
    need_phases(phases, "phases")
    need_number(many, "many", 0, len(phases))
    need_lot(lot, "lot")
    # Behind all phases there is no next one, and so there are no flips.
    flips = sorted(phases[many]) if many < len(phases) else []
    return flipped(_behind(word, phases[:many]), flips_of_lot(flips, lot))


def cut_words(word, phases):
    """All words that can lie there, wherever the plug is pulled, ascending."""
    need_word(word, "word")
    need_phases(phases, "phases")
    if [phase for phase in phases if len(phase) > MOST_FLIPS]:
        raise TooMany("flips", MOST_FLIPS)
    words = [word]
    here = word
    for phase in phases:
        words.extend(words_by_lots(here, phase))
        here = flipped(here, phase)
    return unlike_words(words)


def flips_of_lot(flips, lot):
    """Those of some flips whose numbers are in a lot; raises Misfit("lot") for a number of none of them."""
    if lot and max(lot) >= len(flips):
        raise Misfit("lot")
    return [flips[number] for number in lot_of(lot)]


def words_by_lots(word, flips):
    """What lies there behind each lot of some flips; equal words stand there more than once."""
    words = [word]
    for bit in flips:
        flip = 1 << bit
        words = words + [here ^ flip for here in words]
    return words


def unlike_words(words):
    """Some words, each once, ascending."""
    # Sorted, and not by a dict: Python's hashes of words whose bits are 61 apart are all alike.
    row = sorted(words)
    return tuple([here for at, here in enumerate(row) if at == 0 or here != row[at - 1]])


def _behind(word, phases):
    here = word
    for phase in phases:
        here = flipped(here, phase)
    return here
