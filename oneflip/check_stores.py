"""Which bits of a store count, which phases are plain, and whether phases do a deed wholly or not at all."""

from oneflip.checks import are_unlike, is_list
from oneflip.errors import BadBits
from oneflip.stores import done_in, is_open, need_store, need_word_in, open_bit, rows_in, values_in
from oneflip.words import flipped


def counting_in(store, word):
    """The bits that count at a word, ascending."""
    places = _open_places(store, word)
    return tuple([bit for bit in range(store.bits) if _counts(store, places, bit)])


def is_plain(store, word, phase):
    """Whether a lot of bits, one at least, is a plain phase at a word."""
    need_store(store)
    need_word_in(store, word)
    if not _is_phase(store, phase):
        raise BadBits("phase")
    return _is_plain(store, phase, _counting_of(store, word, phase))


def shows_whole(store, word, deed, value):
    """Whether any value is phases by which a deed is done so that nothing is lost wherever the plug is pulled."""
    new = done_in(store, word, deed)
    if not is_list(value) or not all([_is_phase(store, phase) for phase in value]):
        return False
    old = values_in(store, word)
    meant = old
    here = word
    for phase in value:
        counting = _counting_of(store, here, phase)
        if not _is_plain(store, phase, counting):
            return False
        here = flipped(here, phase)
        # Bits that do not count change nothing of what is meant.
        if counting:
            meant = values_in(store, here)
        if meant not in (old, new):
            return False
    return meant == new


def _is_phase(store, value):
    """Whether a value is a lot of bits of the store's words, one at least."""
    return are_unlike(value, 0, store.bits - 1) and len(value) > 0


def _open_places(store, word):
    """The places of all rows, None while the store is shut."""
    if not is_open(store, word):
        return None
    return [place for place, _ in rows_in(store, word)]


def _counts(store, places, bit):
    """Whether a bit counts at a word with these places."""
    if _is_steering(store, bit):
        return places is not None or bit == open_bit(store)
    if bit < open_bit(store):
        return places is None or bit // store.size not in places
    if places is None:
        return False
    row = (bit - open_bit(store) - 1) // (store.place_bits + store.size)
    return places[row] < store.cells and places[row] not in places[row + 1:]


def _is_steering(store, bit):
    """Whether a bit is the open bit, or one of a place."""
    behind = bit - open_bit(store) - 1
    return behind == -1 or (behind >= 0 and behind % (store.place_bits + store.size) < store.place_bits)


def _counting_of(store, word, phase):
    """Those bits of a phase that count at a word."""
    places = _open_places(store, word)
    return [bit for bit in phase if _counts(store, places, bit)]


def _is_plain(store, phase, counting):
    """Whether a phase is plain of which these bits count."""
    if len(counting) != 1:
        return not counting
    return len(phase) == 1 or not _is_steering(store, counting[0])
