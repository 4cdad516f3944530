"""Pieces, struck words, roads and denials of layouts, reckoned by other ways than the program's."""

from itertools import product

LOST = 10 ** 6


def flips_apart(one, other):
    return sum(1 for bit in range(16) if one // 2 ** bit % 2 != other // 2 ** bit % 2)


def pieces_by_joining(layout):
    """All pieces: lots of words that are put together as long as two of them have neighbours."""
    lots = [(state, {word}) for word, state in enumerate(layout.means) if state is not None]
    at = 0
    while at < len(lots):
        state, lot = lots[at]
        near = [other for other in lots if other[0] == state and other[1] is not lot
                and any(flips_apart(a, b) == 1 for a in lot for b in other[1])]
        if near:
            lots = [other for other in lots if other not in near]
            lots[[other[1] for other in lots].index(lot)] = (state, lot.union(*[other[1] for other in near]))
            at = 0
        else:
            at += 1
    return tuple(sorted(((state, tuple(sorted(lot))) for state, lot in lots), key=lambda piece: piece[1]))


def touched_by_all(layout, words, state):
    """The words of a state that are neighbours of some words, and not among them."""
    return tuple(there for there, meant in enumerate(layout.means) if meant == state and meant is not None
                 and there not in words and any(flips_apart(there, here) == 1 for here in words))


def ranks_by_worth(layout, machine):
    """A dict: each word that means something, and its (rank, ask), (None, None) for a kept one.

    The worth of a piece is one more than the least, over all changes, of the greatest worth of what it
    touches; all begin as LOST, and fall as far as they can.
    """
    pieces = pieces_by_joining(layout)
    home = {word: at for at, (_, words) in enumerate(pieces) for word in words}
    worth = [LOST] * len(pieces)

    def worth_of(at, state):
        return max([worth[home[word]] for word in touched_by_all(layout, pieces[at][1], state)], default=0)

    for _ in range(len(pieces) + 1):
        for at, (state, _) in enumerate(pieces):
            leads = [new for old, new in machine.changes if old == state]
            least = min([worth_of(at, new) for new in leads], default=LOST)
            worth[at] = min(worth[at], least + 1) if least < LOST else worth[at]
    told = {}
    for at, (state, words) in enumerate(pieces):
        leads = [new for old, new in machine.changes if old == state]
        asks = [new for new in leads if worth_of(at, new) < worth[at]]
        for word in words:
            told[word] = (None, None) if worth[at] == LOST else (worth[at], min(asks))
    return told


def kept_by_worth(layout, machine):
    ranks = ranks_by_worth(layout, machine)
    return tuple(sorted(word for word in ranks if ranks[word] == (None, None)))


def road_by_trying(layout, machine, word, state):
    """The first of all rows of bits, shorter ones first, that leads as a road must lead."""
    kept = kept_by_worth(layout, machine)
    for many in range(1, 2 ** layout.bits):
        for bits in product(range(layout.bits), repeat=many):
            way = [word]
            for bit in bits:
                way.append(way[-1] + 2 ** bit if way[-1] // 2 ** bit % 2 == 0 else way[-1] - 2 ** bit)
            if all(layout.means[here] == layout.means[word] for here in way[:-1]):
                if layout.means[way[-1]] == state and way[-1] in kept:
                    return bits
    return None


def is_falls(layout, machine, strikes, lacks):
    """Whether strikes and lacks, pairs and numbers of any size, show that the layout does not stand."""
    pieces = {words[0]: (state, words) for state, words in pieces_by_joining(layout)}
    gone = []
    for word, state in strikes:
        if word in gone or word not in pieces or (pieces[word][0], state) not in machine.changes:
            return False
        if [there for there in touched_by_all(layout, pieces[word][1], state) if there not in gone]:
            return False
        gone.extend(pieces[word][1])
    if not strikes and not lacks or list(lacks) != sorted(set(lacks)):
        return False
    return all(0 <= state < machine.states and not [word for word, meant in enumerate(layout.means)
                                                    if meant == state and word not in gone] for state in lacks)
