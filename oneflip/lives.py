"""Lives: stores that live on, wherever the plug is pulled in deeds and mendings."""

from oneflip.checks import are_unlike, need_number
from oneflip.errors import BadBits
from oneflip.stores import deed_plan, done_in, mend_plan, values_in, word_for
from oneflip.words import flipped


class Life:
    """A store, the word that lies in it now, how many flips there were, and how often the plug was pulled."""

    def __init__(self, store, values):
        self.word_now = word_for(store, values)
        self.store = store
        self.values_now = tuple(values)
        self.flips = 0
        self.cuts = 0

    def do(self, deed):
        """All of the plan of a deed; returns how many flips that is."""
        return self._run(deed_plan(self.store, self.word_now, deed))

    def mend(self):
        """All that mends it; returns how many flips that is."""
        return self._run(mend_plan(self.store, self.word_now))

    def do_cut(self, deed, phase, lot):
        """The plug is pulled in a phase of a deed; returns whether its new values are meant then."""
        wanted = done_in(self.store, self.word_now, deed)
        self._run_cut(deed_plan(self.store, self.word_now, deed), phase, lot)
        return self.values_now == wanted

    def mend_cut(self, phase, lot):
        """The plug is pulled in a phase of what mends it; returns how many flips reached memory."""
        return self._run_cut(mend_plan(self.store, self.word_now), phase, lot)

    def _run_cut(self, phases, phase, lot):
        need_number(phase, "phase", 0, len(phases) - 1)
        flips = phases[phase]
        if not are_unlike(lot, 0, len(flips) - 1):
            raise BadBits("lot")
        many = self._run([*phases[:phase], [flips[number] for number in lot]])
        self.cuts += 1
        return many

    def _run(self, phases):
        """The phases reach memory; returns how many flips they have."""
        word = self.word_now
        for phase in phases:
            word = flipped(word, phase)
        many = sum([len(phase) for phase in phases])
        self.word_now = word
        self.values_now = values_in(self.store, word)
        self.flips += many
        return many
