"""Which words are kept: pieces that fail are struck round by round, until a round strikes none."""

from oneflip.checks import need_number
from oneflip.errors import Misfit
from oneflip.layouts import need_layout, need_meaning, need_word_of, pieces_of
from oneflip.machines import need_machine
from oneflip.papers import Denial, Paper


class Stands(Paper):
    """All pieces of a layout that stands for a machine."""

    def __init__(self, pieces):
        Paper.__init__(self, "stands", pieces)
        self.pieces = self.parts[0]


class Falls(Denial):
    """Pieces that are struck, one behind another, and states that have no word but in these."""

    def __init__(self, strikes, lacks):
        Denial.__init__(self, "falls", strikes, lacks)
        self.strikes = self.parts[0]
        self.lacks = self.parts[1]


def need_fit(layout, machine):
    """Raises for what is no layout, no machine, or for a layout that means a state that the machine lacks."""
    need_layout(layout, "layout")
    need_machine(machine, "machine")
    _need_states(layout, machine)


def need_place(layout, machine, word):
    """Raises for what is no layout, no machine, or no word of the layout."""
    need_layout(layout, "layout")
    need_machine(machine, "machine")
    need_word_of(layout, word)


def need_state(machine, state):
    """Raises BadNumber("state") for what is no state of the machine."""
    need_number(state, "state", 0, machine.states - 1)


def kept_from(layout, machine, word):
    """The kept words, among which the word must be."""
    kept = kept_of(layout, machine)
    if word not in kept:
        raise Misfit("word")
    return kept


def need_change(layout, machine, word, state):
    """Raises Misfit("state") if the machine has no change to a state from the one that a word means."""
    if (layout.means[word], state) not in machine.changes:
        raise Misfit("state")


def _need_states(layout, machine):
    if [state for state in layout.means if state is not None and state >= machine.states]:
        raise Misfit("layout")


def kept_of(layout, machine):
    """The kept words, ascending."""
    need_fit(layout, machine)
    struck = _struck_words(_strikes(layout, machine))
    return tuple([word for word, state in enumerate(layout.means) if state is not None and word not in struck])


def stands_for(layout, machine):
    """Whether the layout stands for the machine."""
    need_fit(layout, machine)
    return not _strikes(layout, machine) and not _lacking(layout, machine, {})


def judged_layout(layout, machine):
    """The Stands of all pieces if the layout stands for the machine, otherwise the Falls of all that are struck."""
    need_fit(layout, machine)
    strikes = _strikes(layout, machine)
    lacks = _lacking(layout, machine, _struck_words(strikes))
    if not strikes and not lacks:
        return Stands(pieces_of(layout))
    return Falls([(words[0], ask) for words, _, ask in strikes], lacks)


def rank_of(layout, machine, word):
    """The round in which the piece of a word was struck, None for a kept word."""
    return _strike_at(layout, machine, word)[0]


def next_ask(layout, machine, word):
    """The least state for which the piece of a word was struck in its round, None for a kept word."""
    return _strike_at(layout, machine, word)[1]


def road(layout, machine, word, state):
    """The bits whose flips lead from a kept word through its piece to a kept word of a state."""
    need_place(layout, machine, word)
    need_state(machine, state)
    kept = kept_from(layout, machine, word)
    need_change(layout, machine, word, state)
    return fewest_flips(layout, word, [there for there in kept if layout.means[there] == state])


def _strike_at(layout, machine, word):
    """The pair (rank, ask) of a word."""
    need_place(layout, machine, word)
    _need_states(layout, machine)
    need_meaning(layout, word)
    for words, rank, ask in _strikes(layout, machine):
        if word in words:
            return rank, ask
    return None, None


def _strikes(layout, machine):
    """A triple (words, rank, ask) for each piece that is struck, round by round."""
    pieces = pieces_of(layout)
    touched = _touched_pieces(layout, pieces)
    leads = [machine.leads(state) for state, _ in pieces]
    struck = {}
    fresh = _asks_of_round(leads, touched, struck)
    rank = 1
    while fresh:
        struck.update({at: (rank, fresh[at]) for at in fresh})
        fresh = _asks_of_round(leads, touched, struck)
        rank += 1
    return [(pieces[at][1], struck[at][0], struck[at][1]) for at in struck]


def _touched_pieces(layout, pieces):
    """For each piece a dict: a state, and the numbers of its pieces that this piece touches."""
    home = {word: at for at, (_, words) in enumerate(pieces) for word in words}
    touched = []
    for at, (_, words) in enumerate(pieces):
        theirs = {}
        for there in sorted({here ^ (1 << bit) for here in words for bit in range(layout.bits)}):
            if there in home and home[there] != at:
                theirs.setdefault(layout.means[there], []).append(home[there])
        touched.append(theirs)
    return touched


def _asks_of_round(leads, touched, struck):
    """A dict: the number of each piece that this round strikes, and its ask."""
    fresh = {}
    for at, states in enumerate(leads):
        if at not in struck:
            asks = [state for state in states if _is_lost(touched[at].get(state, []), struck)]
            if asks:
                fresh[at] = asks[0]
    return fresh


def _is_lost(numbers, struck):
    return all([at in struck for at in numbers])


def _struck_words(strikes):
    return {word: True for strike in strikes for word in strike[0]}


def _lacking(layout, machine, struck):
    """The states of the machine that have no word but struck ones, ascending."""
    kept = {state: True for word, state in enumerate(layout.means) if word not in struck}
    return [state for state in range(machine.states) if state not in kept]


def fewest_flips(layout, word, goals):
    """The least of the fewest flips that lead from a word through its piece to one of the goals that it touches."""
    ways = {word: ()}
    row = [word]
    while row:
        following = []
        # The words of a row stand in the order of their ways, so the first way that is found is the least.
        for here in row:
            for bit in range(layout.bits):
                there = here ^ (1 << bit)
                if there in goals:
                    return ways[here] + (bit,)
                if there not in ways and layout.means[there] == layout.means[word]:
                    ways[there] = ways[here] + (bit,)
                    following.append(there)
        row = following
