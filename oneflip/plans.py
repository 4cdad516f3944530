"""Plans: phases by which a change is made so that wherever the plug is pulled nothing is lost."""

from itertools import combinations

from oneflip.checks import need_phases
from oneflip.errors import Misfit, TooMany
from oneflip.kept import kept_from, need_change, need_place, need_state
from oneflip.papers import Denial, Paper
from oneflip.phases import cut_words, words_by_lots
from oneflip.words import flipped

MOST_BITS = 6


class Safe(Paper):
    """All words that can lie there, wherever the plug is pulled in a plan."""

    def __init__(self, words):
        Paper.__init__(self, "safe", words)
        self.words = self.parts[0]


class Torn(Denial):
    """The number of a phase, and a lot of its flips behind which a word lies that is not let."""

    def __init__(self, phase, lot):
        Denial.__init__(self, "torn", phase, lot)
        self.phase = self.parts[0]
        self.lot = self.parts[1]


class Short(Denial):
    """The word that lies behind all phases and does not mean the new state."""

    def __init__(self, lies):
        Denial.__init__(self, "short", lies)
        self.lies = self.parts[0]


def let_phases(layout, machine, word, state):
    """All phases that are let at a word, shorter ones first."""
    let = _let_words(layout, machine, word, state)
    return tuple(_phases_let(layout.bits, word, let))


def judged_plan(layout, machine, word, phases, state):
    """The Safe of all words that can lie there if the phases are a plan, otherwise a Torn or a Short."""
    let = let_in_plan(layout, machine, word, phases, state)
    here = word
    for number, phase in enumerate(phases):
        lot = _torn_lot(here, sorted(phase), let)
        if lot is not None:
            return Torn(number, lot)
        here = flipped(here, phase)
    if layout.means[here] != state:
        return Short(here)
    return Safe(cut_words(word, phases))


def least_plan(layout, machine, word, state):
    """The plan of as few phases as can be, of such the fewest flips, of such the least."""
    let = _let_words(layout, machine, word, state)
    if layout.bits > MOST_BITS:
        raise TooMany("bits", MOST_BITS)
    seen = {word: True}
    row = {word: (0, ())}
    done = []
    # A word is come to by the fewest phases first, and what comes behind it does not hang on the way to it.
    while not done:
        row = _next_row(layout, row, let, seen)
        seen.update({here: True for here in row})
        done = [row[here] for here in row if layout.means[here] == state]
    return min(done)[1]


def let_in_plan(layout, machine, word, phases, state):
    """A dict of the words that are let; raises what is wrong with what is told of a plan."""
    need_place(layout, machine, word)
    need_phases(phases, "phases")
    need_state(machine, state)
    kept = kept_from(layout, machine, word)
    if [phase for phase in phases if max(phase) >= layout.bits]:
        raise Misfit("phases")
    need_change(layout, machine, word, state)
    return {here: True for here in kept if layout.means[here] in (layout.means[word], state)}


def _let_words(layout, machine, word, state):
    return let_in_plan(layout, machine, word, (), state)


def _lots_up_to(many):
    """All lots of the numbers below many, shorter ones first, those of one length ascending."""
    return [lot for length in range(many + 1) for lot in combinations(range(many), length)]


def _phases_let(bits, word, let):
    return [phase for phase in _lots_up_to(bits) if phase and _is_let(word, phase, let)]


def _is_let(word, phase, let):
    return all([here in let for here in words_by_lots(word, phase)])


def _torn_lot(word, flips, let):
    """The first lot of numbers of flips that leads to a word that is not let, None if there is none."""
    for lot in _lots_up_to(len(flips)):
        if flipped(word, [flips[number] for number in lot]) not in let:
            return lot
    return None


def _next_row(layout, row, let, seen):
    """The words one phase behind those of a row that were not seen, each with its pair of flips and phases."""
    following = {}
    for here in row:
        flips, plan = row[here]
        for phase in _phases_let(layout.bits, here, let):
            there = flipped(here, phase)
            told = (flips + len(phase), plan + (phase,))
            if there not in seen and (there not in following or told < following[there]):
                following[there] = told
    return following
