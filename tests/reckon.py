"""Pieces, struck words, roads, codes, stores, plans and lines, reckoned by other ways than the program's."""

from itertools import combinations, product

LOST = 10 ** 6


def flips_apart(one, other):
    return sum(1 for bit in range(16) if one // 2 ** bit % 2 != other // 2 ** bit % 2)


def pieces_by_joining(layout):
    """All pieces: lots of words that are put together as long as two of them have neighbours."""
    lots = [(state, {word}) for word, state in enumerate(layout.means) if state is not None]
    at = 0
    while at < len(lots):
        state, lot = lots[at]
        near = [other for other in lots if other[0] == state and other[1] is not lot
                and any(flips_apart(a, b) == 1 for a in lot for b in other[1])]
        if near:
            lots = [other for other in lots if other not in near]
            lots[[other[1] for other in lots].index(lot)] = (state, lot.union(*[other[1] for other in near]))
            at = 0
        else:
            at += 1
    return tuple(sorted(((state, tuple(sorted(lot))) for state, lot in lots), key=lambda piece: piece[1]))


def touched_by_all(layout, words, state):
    """The words of a state that are neighbours of some words, and not among them."""
    return tuple(there for there, meant in enumerate(layout.means) if meant == state and meant is not None
                 and there not in words and any(flips_apart(there, here) == 1 for here in words))


def ranks_by_worth(layout, machine):
    """A dict: each word that means something, and its (rank, ask), (None, None) for a kept one.

    The worth of a piece is one more than the least, over all changes, of the greatest worth of what it
    touches; all begin as LOST, and fall as far as they can.
    """
    pieces = pieces_by_joining(layout)
    home = {word: at for at, (_, words) in enumerate(pieces) for word in words}
    worth = [LOST] * len(pieces)

    def worth_of(at, state):
        return max([worth[home[word]] for word in touched_by_all(layout, pieces[at][1], state)], default=0)

    for _ in range(len(pieces) + 1):
        for at, (state, _) in enumerate(pieces):
            leads = [new for old, new in machine.changes if old == state]
            least = min([worth_of(at, new) for new in leads], default=LOST)
            worth[at] = min(worth[at], least + 1) if least < LOST else worth[at]
    told = {}
    for at, (state, words) in enumerate(pieces):
        leads = [new for old, new in machine.changes if old == state]
        asks = [new for new in leads if worth_of(at, new) < worth[at]]
        for word in words:
            told[word] = (None, None) if worth[at] == LOST else (worth[at], min(asks))
    return told


def kept_by_worth(layout, machine):
    ranks = ranks_by_worth(layout, machine)
    return tuple(sorted(word for word in ranks if ranks[word] == (None, None)))


def road_by_trying(layout, machine, word, state):
    """The first of all rows of bits, shorter ones first, that leads as a road must lead."""
    kept = kept_by_worth(layout, machine)
    for many in range(1, 2 ** layout.bits):
        for bits in product(range(layout.bits), repeat=many):
            way = [word]
            for bit in bits:
                way.append(way[-1] + 2 ** bit if way[-1] // 2 ** bit % 2 == 0 else way[-1] - 2 ** bit)
            if all(layout.means[here] == layout.means[word] for here in way[:-1]):
                if layout.means[way[-1]] == state and way[-1] in kept:
                    return bits
    return None


def is_falls(layout, machine, strikes, lacks):
    """Whether strikes and lacks, pairs and numbers of any size, show that the layout does not stand."""
    pieces = {words[0]: (state, words) for state, words in pieces_by_joining(layout)}
    gone = []
    for word, state in strikes:
        if word in gone or word not in pieces or (pieces[word][0], state) not in machine.changes:
            return False
        if [there for there in touched_by_all(layout, pieces[word][1], state) if there not in gone]:
            return False
        gone.extend(pieces[word][1])
    if not strikes and not lacks or list(lacks) != sorted(set(lacks)):
        return False
    return all(0 <= state < machine.states and not [word for word, meant in enumerate(layout.means)
                                                    if meant == state and word not in gone] for state in lacks)


def bits_of(word, many):
    """The bits of a word from bit 0 on, so many of them, as noughts and ones."""
    return [int(sign) for sign in reversed(format(word, f"0{many}b"))]


def number_of(bits):
    """The number of some bits, the first one being the lowest."""
    return int("".join(str(bit) for bit in reversed(bits)) or "0", 2)


def code_counts(base, double, bits):
    """The bit of a double that counts: the upper one if an even number of all bits below are 1."""
    lower = base - 1 + 2 * double
    return lower + 1 if bits[:lower].count(1) % 2 == 0 else lower


def code_value(base, doubles, bits):
    """What the bits of a word of a code mean, reckoned from below."""
    value = bits[0] if base == 2 else {(0, 0): 0, (1, 0): 0, (0, 1): 1, (1, 1): 2}[tuple(bits[:2])]
    many = base
    for double in range(doubles):
        value += many if bits[code_counts(base, double, bits)] else 0
        many *= 2
    return value


def code_way(base, doubles, word, value):
    """The told way, by flipping the bits of the row so far to see which bit counts behind them."""
    start = bits_of(word, base - 1 + 2 * doubles)
    row = _base_way(base, start, value % base)
    for double in range(doubles):
        wanted = value // base // 2 ** double % 2
        counts = code_counts(base, double, start)
        lower = base - 1 + 2 * double
        idle = lower if counts == lower + 1 else lower + 1
        if not row:
            row = [] if start[counts] == wanted else [counts]
            continue
        longer = list(row)
        if len(row) >= 2 and start[idle] != start[counts]:
            longer.insert(0, idle)
        end = list(start)
        for bit in longer:
            end[bit] = 1 - end[bit]
        counts = code_counts(base, double, end)
        if end[counts] != wanted:
            longer.insert(len(longer) - 1, counts)
        row = longer
    return tuple(row)


def _base_way(base, start, wanted):
    """The first of all rows of flips, shorter ones first, that leads to a base value at its last flip alone."""
    old = code_value(base, 0, start)
    for many in range(4):
        for row in product(range(base - 1), repeat=many):
            bits, told = list(start), [old]
            for bit in row:
                bits[bit] = 1 - bits[bit]
                told.append(code_value(base, 0, bits))
            if told[-1] == wanted and all(meant == old for meant in told[:-1]) and (many == 0) == (old == wanted):
                return list(row)
    return None


class Till:
    """A store in the open: its cells, whether it is open, its rows, taken from the noughts and ones of a word."""

    def __init__(self, cells, size, most, word):
        place = 0
        while 2 ** place < cells:
            place += 1
        self.many = cells * size + 1 + most * (place + size)
        self.sizes = (cells, size, most, place)
        bits = bits_of(word, self.many)

        def taken(many):
            front = bits[:many]
            del bits[:many]
            return number_of(front)

        self.cells = [taken(size) for _ in range(cells)]
        self.open = taken(1)
        self.rows = [(taken(place), taken(size)) for _ in range(most)]

    def word(self):
        _, size, _, place = self.sizes
        bits = []
        for value in self.cells:
            bits += bits_of(value, size)
        bits.append(self.open)
        for where, what in self.rows:
            bits += bits_of(where, place)[:place] + bits_of(what, size)
        return number_of(bits)

    def means(self):
        values = dict(enumerate(self.cells))
        if self.open:
            values.update({where: what for where, what in self.rows if where < len(self.cells)})
        return tuple(values[cell] for cell in range(len(self.cells)))

    def unlike(self, word):
        """The bits in which this one is unlike a word, and which it takes over then."""
        one, other = bits_of(self.word(), self.many), bits_of(word, self.many)
        return tuple(bit for bit in range(self.many) if one[bit] != other[bit])


def till_plan(cells, size, most, word, deed=None):
    """The plan that mends a word, and then does a deed, if there is one, step by step."""
    till = Till(cells, size, most, word)
    phases = []

    def done():
        nonlocal word
        phases.append(till.unlike(word))
        word = till.word()

    if till.open:
        till.cells = list(till.means())
        done()
        till.open = 0
        done()
    if deed is not None:
        rows = sorted(tuple(pair) for pair in deed)
        while len(rows) < most:
            rows.append(rows[-1])
        till.rows = rows
        done()
        till.open = 1
        done()
        till.cells = list(till.means())
        done()
        till.open = 0
        done()
    return tuple(phase for phase in phases if phase)


def lots(items):
    """All lots of some items, shorter ones first, those of one length in their order."""
    items = list(items)
    return [lot for many in range(len(items) + 1) for lot in combinations(items, many)]


def with_flips(word, bits):
    """The word with bits flipped, one behind another, each as often as it stands there."""
    for bit in bits:
        word = word + 2 ** bit if word // 2 ** bit % 2 == 0 else word - 2 ** bit
    return word


def let_by_trying(layout, machine, word, state):
    """The words that are let: those that are kept and mean what the word means, or the new state."""
    return [here for here in kept_by_worth(layout, machine) if layout.means[here] in (layout.means[word], state)]


def plans_by_trying(layout, let, word, state, phases):
    """All plans of so many phases, by trying phase by phase."""
    rows = [((), word)]
    for _ in range(phases):
        rows = [(row + (phase,), with_flips(here, phase)) for row, here in rows for phase in lots(range(layout.bits))
                if phase and all(with_flips(here, lot) in let for lot in lots(phase))]
    return [row for row, here in rows if layout.means[here] == state]


def clause_steps(clause, worth):
    """The gifts that a clause of a line makes one behind another, each a dict; None for a need that is not met."""
    word, *items = clause.split(" ")
    one, last = items[0], items[-1]
    if word == "put":
        return [{one: int(last)}]
    if word in ("add", "take"):
        return [{one: worth[one] + (int(last) if word == "add" else -int(last))}]
    if word == "move":
        left = worth[one] - int(last)
        return [{one: left}, {items[1]: (left if items[1] == one else worth[items[1]]) + int(last)}]
    if word == "swap":
        return [{one: worth[last], last: worth[one]}]
    if word == "copy":
        return [{last: worth[one]}]
    return [{}] if worth[one] >= int(last) else [None]


def line_worths(line, names, size, worths):
    """The worths behind a line, clause by clause, by what each of its steps gives; None if it fails."""
    worth = dict(zip(names, worths))
    for clause in line.split(" , "):
        for gifts in clause_steps(clause, worth):
            if gifts is None or [value for value in gifts.values() if value < 0 or value.bit_length() > size]:
                return None
            worth.update(gifts)
    return tuple(worth[name] for name in names)


def any_line(die, names, size, clauses=None):
    """Some line about some names; many of its numbers fit."""
    told = []
    for _ in range(die.randrange(1, 4) if clauses is None else clauses):
        word = die.choice(("put", "add", "take", "move", "swap", "copy", "need"))
        items = [die.choice(names) for _ in range(2 if word in ("move", "swap", "copy") else 1)]
        if word not in ("swap", "copy"):
            most = 2 ** size if word == "put" else max(2, 2 ** size // 3)
            items.append(str(die.choice((0, 1, die.randrange(most), die.randrange(most)))))
        told.append(" ".join([word] + items))
    return " , ".join(told)
