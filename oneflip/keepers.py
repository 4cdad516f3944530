"""Keepers, which go the roads of a layout when they are asked, and live on wherever their plug is pulled."""

from oneflip.checks import need_number
from oneflip.kept import fewest_flips, kept_from, need_change, need_place, need_state
from oneflip.words import flipped_often


class Keeper:
    """A layout, a machine, and the kept word that lies in memory."""

    def __init__(self, layout, machine, word):
        need_place(layout, machine, word)
        self._kept = kept_from(layout, machine, word)
        self.layout = layout
        self.machine = machine
        self.lies = word
        self.meant = layout.means[word]
        self.flips = 0
        self.cuts = 0
        self.asked = ()

    def __eq__(self, other):
        return (isinstance(other, Keeper) and self.layout == other.layout and self.machine == other.machine
                and self.lies == other.lies and self.meant == other.meant and self.flips == other.flips
                and self.cuts == other.cuts and self.asked == other.asked)

    def ask(self, state):
        """Goes the road to a state; returns how many flips that is."""
        return self._go(state, self._road_to(state))

    def ask_cut(self, state, many):
        """Goes so many flips of the road, then the plug is pulled; returns what is meant then."""
        flips = self._road_to(state)
        need_number(many, "many", 0, len(flips))
        self._go(state, flips[:many])
        self.cuts += 1
        return self.meant

    def copy(self):
        """Another Keeper that is as this one is now, and changes by itself."""
        other = Keeper(self.layout, self.machine, self.lies)
        other.flips = self.flips
        other.cuts = self.cuts
        other.asked = self.asked
        return other

    def _road_to(self, state):
        need_state(self.machine, state)
        need_change(self.layout, self.machine, self.lies, state)
        return fewest_flips(self.layout, self.lies, [word for word in self._kept if self.layout.means[word] == state])

    def _go(self, state, flips):
        """Makes flips of the road to a state; returns how many they are."""
        self.lies = flipped_often(self.lies, flips)
        self.meant = self.layout.means[self.lies]
        self.flips += len(flips)
        self.asked = self.asked + (state,)
        return len(flips)
