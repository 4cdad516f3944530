"""Books, which keep numbers by names in a store: lines are told, and plugs are pulled in them."""

from oneflip.checks import is_list, need_lot, need_number
from oneflip.errors import BadBook, Misfit, TooMany
from oneflip.lines import clauses_of, need_book_names, reckoned
from oneflip.lives import Life
from oneflip.names import need_name_of
from oneflip.phases import flips_of_lot
from oneflip.stores import MOST_SIZE, Store, deed_plan

MOST_ROWS = 4


class Book:
    """Numbers of so many bits, one for each name."""

    def __init__(self, size, names):
        need_number(size, "size", 1, MOST_SIZE)
        need_book_names(names)
        self.size = size
        self.names = tuple(names)
        store = Store(len(names), size, min(MOST_ROWS, len(names)))
        self._life = Life(store, [0] * len(names))
        self._told = []
        self.worths = self._life.values_now
        self.flips = 0

    def tell(self, line):
        """Does a line; returns its deed, of no pairs if it changes no worth."""
        deed = self._deed_of(line)
        if deed:
            self._life.do(deed)
        self._note(line, "done")
        return deed

    def pull(self, line, phase, lot):
        """Pulls the plug in a phase of a line, and mends; returns "before" or "behind"."""
        clauses_of(line)
        need_number(phase, "phase", 0, None)
        need_lot(lot, "lot")
        deed = self._deed_of(line)
        phases = deed_plan(self._life.store, self._life.word_now, deed) if deed else ()
        if phase >= len(phases):
            raise Misfit("phase")
        many = sum([len(ahead) for ahead in phases[:phase]]) + len(flips_of_lot(phases[phase], lot))
        came = "behind" if self._life.do_cut(deed, phase, lot) else "before"
        self._life.mend()
        self._note(line, f"cut behind {many} flips: {came}")
        return came

    def worth(self, name):
        """The worth of a name."""
        need_name_of(self.names, name)
        return self.worths[self.names.index(name)]

    def sum_of(self, names):
        """The sum of the worths of some names, each as often as it stands there."""
        if not is_list(names):
            raise BadBook("names")
        return sum([self.worth(name) for name in names])

    def story(self):
        """A pair of the line and what came of it, for each line that raised no error."""
        return tuple(self._told)

    def _deed_of(self, line):
        """The cells whose worths are others behind a line, with these worths."""
        behind = reckoned(line, self.names, self.size, self.worths)
        deed = [(cell, worth) for cell, worth in enumerate(behind) if worth != self.worths[cell]]
        most = self._life.store.most
        if len(deed) > most:
            raise TooMany("cells", most)
        return tuple(deed)

    def _note(self, line, came):
        self._told.append((line, came))
        self.worths = self._life.values_now
        self.flips = self._life.flips
