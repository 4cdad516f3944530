"""Players: keepers that go by a card, are asked for names, and keep a tale of it."""

from oneflip.cards import Card
from oneflip.errors import BadBook
from oneflip.keepers import Keeper
from oneflip.layouts import words_for
from oneflip.names import need_name_of


class Player:
    """A card, and the name that is meant now."""

    def __init__(self, card):
        if not isinstance(card, Card):
            raise BadBook("card")
        self.card = card
        # All words of a fitted layout that mean something are kept.
        self._keeper = Keeper(card.layout, card.machine, words_for(card.layout, 0)[0])
        self._told = []
        self._look()

    def ask(self, name):
        """Goes to a name; returns how many flips it took."""
        need_name_of(self.card.names, name)
        old = self.now
        many = self._keeper.ask(self.card.names.index(name))
        self._look()
        self._told.append(f"{old}: {name}, {many} flips")
        return many

    def pull(self, name, many):
        """Goes so many flips of the way to a name, then the plug is pulled; returns the name that it means then."""
        need_name_of(self.card.names, name)
        old = self.now
        self._keeper.ask_cut(self.card.names.index(name), many)
        self._look()
        self._told.append(f"{old}: {name}, cut behind {many} flips: {self.now}")
        return self.now

    def tale(self):
        """A string for each time that it was asked, and raised no error."""
        return tuple(self._told)

    def _look(self):
        self.now = self.card.names[self._keeper.meant]
        self.lies = self._keeper.lies
        self.flips = self._keeper.flips
