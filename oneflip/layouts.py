"""Layouts: which state each word of bits means, and the pieces into which the words of a state fall."""

from oneflip.checks import is_list, is_within, need_number
from oneflip.errors import BadLayout, BadWord, Misfit
from oneflip.texts import integer_at, item_at, items_of, need_end
from oneflip.words import lots_of

MOST_BITS = 8
MOST_STATE = 63
NOTHING = "-"


class Layout:
    """So many bits, and what each of their words means: a state, or None for nothing."""

    def __init__(self, bits, means):
        if not is_within(bits, 1, MOST_BITS):
            raise BadLayout("bits")
        if not is_list(means) or len(means) != 1 << bits or not all([_is_meaning(item) for item in means]):
            raise BadLayout("means")
        self.bits = bits
        self.means = tuple(means)

    def __eq__(self, other):
        return isinstance(other, Layout) and self.bits == other.bits and self.means == other.means

    def __str__(self):
        return " ".join([str(self.bits)] + [NOTHING if state is None else str(state) for state in self.means])

    @staticmethod
    def read(text):
        """The Layout whose text this is."""
        items = items_of(text)
        bits = integer_at(items, 0, 1, MOST_BITS)
        behind = 1 + (1 << bits)
        means = [_meaning_at(items, at) for at in range(1, behind)]
        need_end(items, behind)
        return Layout(bits, means)


def _is_meaning(value):
    return value is None or is_within(value, 0, MOST_STATE)


def _meaning_at(items, at):
    if item_at(items, at) == NOTHING:
        return None
    return integer_at(items, at, 0, MOST_STATE)


def need_layout(value, part):
    """Raises BadLayout(part) for what is no Layout."""
    if not isinstance(value, Layout):
        raise BadLayout(part)


def need_word_of(layout, word):
    """Raises BadWord("word") for what is no word of the layout."""
    if not is_within(word, 0, len(layout.means) - 1):
        raise BadWord("word")


def need_meaning(layout, word):
    """Raises Misfit("word") for a word of the layout that means nothing."""
    if layout.means[word] is None:
        raise Misfit("word")


def meaning_of(layout, word):
    """The state that a word means, None if it means nothing."""
    need_layout(layout, "layout")
    need_word_of(layout, word)
    return layout.means[word]


def words_for(layout, state):
    """The words that mean a state, ascending."""
    need_layout(layout, "layout")
    need_number(state, "state", 0, MOST_STATE)
    return tuple([word for word, meant in enumerate(layout.means) if meant == state])


def pieces_of(layout):
    """All pieces, each a pair (state, words), ascending by their words."""
    need_layout(layout, "layout")
    pieces = []
    for state in sorted({meant for meant in layout.means if meant is not None}):
        pieces.extend([(words, state) for words in lots_of(words_for(layout, state))])
    return tuple([(state, words) for words, state in sorted(pieces)])


def piece_at(layout, word):
    """The words of the piece of a word, ascending."""
    need_layout(layout, "layout")
    need_word_of(layout, word)
    need_meaning(layout, word)
    lots = lots_of(words_for(layout, layout.means[word]))
    return [lot for lot in lots if word in lot][0]


def touched_by(layout, word, state):
    """The words of a state that the piece of a word touches, ascending."""
    need_layout(layout, "layout")
    need_word_of(layout, word)
    need_number(state, "state", 0, MOST_STATE)
    piece = piece_at(layout, word)
    beside = {here ^ (1 << bit): True for here in piece for bit in range(layout.bits)}
    return tuple([there for there in words_for(layout, state) if there in beside and there not in piece])
