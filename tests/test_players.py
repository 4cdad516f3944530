import unittest

from oneflip.cards import Card
from oneflip.errors import BadBook, BadNumber, Misfit, NoName
from oneflip.kept import kept_of, road
from oneflip.players import Player
from tests.reckon import with_flips
from tests.test_cards import LIGHT, MANY, any_card
from tests.test_lines import NO_NAMES
from tests.tools import NO_INTEGERS, NO_STRINGS, Case, Odd, dice


def told_of(player):
    """All that a Player tells of itself."""
    return player.card.lines(), player.now, player.lies, player.flips, player.tale()


class Made(Case):
    def test_begin(self):
        die = dice(301)
        for names, changes in [any_card(die) for _ in range(60)] + [LIGHT, (["a"], [])]:
            card = Card(names, changes)
            player = Player(card=card)
            first = min(word for word in kept_of(card.layout, card.machine) if card.layout.means[word] == 0)
            self.same(told_of(player), (card.lines(), names[0], first, 0, ()))
            self.same(player.card == card, True)

    def test_fails(self):
        for value in (None, True, 0, "card", LIGHT, ["states a"], {}, Odd(), Card, object(), Player(Card(["a"], []))):
            self.fails(BadBook("card"), Player, value)

    def test_methods_are_its_own(self):
        for name in ("__init__", "ask", "pull", "tale"):
            self.assertIn(name, vars(Player))


class Asked(Case):
    def test_some_players(self):
        die = dice(302)
        seen = 0
        for names, changes in [any_card(die) for _ in range(40)] + [LIGHT]:
            card = Card(names, changes)
            player = Player(card)
            word, now, flips, tale = player.lies, names[0], 0, []
            for _ in range(12):
                leads = [new for old, new in changes if old == now]
                if not leads:
                    break
                name = die.choice(leads)
                way = road(card.layout, card.machine, word, names.index(name))
                many = die.randrange(len(way) + 1)
                if die.randrange(2):
                    self.same(player.ask(name=name), len(way))
                    tale.append(f"{now}: {name}, {len(way)} flips")
                    many = len(way)
                else:
                    behind = name if many == len(way) else now
                    self.same(player.pull(many=many, name=name), behind)
                    tale.append(f"{now}: {name}, cut behind {many} flips: {behind}")
                word, flips, now = with_flips(word, way[:many]), flips + many, name if many == len(way) else now
                self.same(told_of(player), (card.lines(), now, word, flips, tuple(tale)))
                self.assertIn(word, kept_of(card.layout, card.machine))
                seen += 1
        self.assertGreater(seen, 200)

    def test_who_asks_again_comes_there(self):
        pairs = [(old, new) for old in MANY for new in MANY if old != new]
        card = Card(MANY, pairs)
        with self.in_short(20):
            for name in MANY[1:]:
                whole, often = Player(card), Player(card)
                many = whole.ask(name)
                while often.flips + 1 < many:
                    self.same(often.pull(name, 1), MANY[0])
                self.same(often.ask(name), 1)
                self.same((often.now, often.lies, often.flips), (name, whole.lies, many))
                self.same(len(often.tale()), many)

    def test_a_card_without_a_change(self):
        for names in (["a"], ["a", "b"], MANY):
            player = Player(Card(names, []))
            for name in names:
                self.fails(Misfit("state"), player.ask, name)
                self.fails(Misfit("state"), player.pull, name, 0)
            self.same((player.now, player.tale(), player.flips), (names[0], (), 0))

    def test_the_tale_is_a_copy(self):
        player = Player(Card(*LIGHT))
        player.ask("green")
        tale = player.tale()
        player.ask("amber")
        self.same((tale, player.tale()), (("red: green, 2 flips",), ("red: green, 2 flips", "green: amber, 1 flips")))


class Errors(Case):
    def setUp(self):
        self.player = Player(Card(*LIGHT))
        self.player.pull("green", 1)
        self.before = told_of(self.player)

    def refuses(self, wanted, call, *told):
        self.fails(wanted, getattr(self.player, call), *told)
        self.same(told_of(self.player), self.before)

    def test_names(self):
        for value in NO_STRINGS + NO_NAMES + ("blue", "re", "reds", ["red"], ("red",), 0, 1):
            self.refuses(NoName(value), "ask", value)
            for many in (0, None, 99):
                self.refuses(NoName(value), "pull", value, many)

    def test_changes(self):
        for name in ("red", "amber"):
            self.refuses(Misfit("state"), "ask", name)
            for many in (0, None, 99):
                self.refuses(Misfit("state"), "pull", name, many)

    def test_numbers(self):
        for many in NO_INTEGERS + (-1, 2, 3, 2 ** 70):
            self.refuses(BadNumber("many"), "pull", "green", many)
        self.same(self.player.pull("green", 1), "green")


if __name__ == "__main__":
    unittest.main()
