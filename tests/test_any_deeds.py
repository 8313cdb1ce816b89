"""Points 5, 78, 80, 88 and 91: deeds of any items, most of which make no sense, between those of a street."""

import random
import unittest

from tests.helpers import town_fields
from tests.streets import Street
from turnpike.errors import TurnpikeError
from turnpike.texts.saved import read_town, town_text
from turnpike.texts.shapes import is_deed


class AnyDeeds:
    """Makes deeds of numbers that occur in a town, so that some of them fit together."""

    def __init__(self, seed, town):
        self.chance = random.Random(seed)
        self.town = town

    def number(self):
        small = [0, 1, 1, 2, 2, 8, 9, 4294967295]
        return self.chance.choice(small + list(self.town.ledger.book.vaults) * 2)

    def key(self):
        locks = [
            lock for party in self.town.parties.values() for end in party.now.ends for lock in end.last[4]
        ]
        return self.chance.choice([0, 4294967295] + [lock[0] for lock in locks])

    def amount(self):
        return self.chance.choice([0, 1, 2, 5, 30, 30, 100, 10 ** 15])

    def height(self):
        ahead = self.chance.choice([-1, 0, 1, 12, 13, 60, 100, 10 ** 12])
        return max(0, min(self.town.ledger.height_now + ahead, 10 ** 12))

    def lock(self):
        return (self.key(), self.amount(), self.height(), self.chance.random() < 0.5)

    def state(self):
        first = self.chance.choice([100, 70, 0, -5, 200])
        locks = tuple([self.lock() for _ in range(self.chance.choice([0, 0, 0, 1, 2]))])
        second = self.chance.choice([200 - first, 100, 130])
        return (self.number(), self.number(), first, second, locks, self.chance.random() < 0.1)

    def opening(self):
        amounts = self.chance.choice([(100, 100), (0, 100), (200, 0), (self.amount(), self.amount())])
        return (self.number(), self.number(), self.number(), *amounts, self.height(), self.height())

    def splice(self):
        amounts = [self.chance.choice([0, 0, 5, 30]) for _ in range(4)]
        return (self.number(), self.chance.choice([0, 0, 0, 1]), self.chance.choice([0, 0, 1]), self.height(), *amounts)

    def act(self):
        return self.chance.choice([
            ("pay", self.number(), self.amount()), ("open", self.opening()), ("publish", self.state()),
            ("settle", self.number()), ("splice", self.splice()), ("reveal", self.number()),
        ])

    def thing(self):
        hands = self.chance.choice([(1, 2), (2, 1), (1, 9), (9,), (), (1, 2, 9, 3)])
        return (self.act(), hands, self.number(), self.amount(), self.chance.randint(0, 50))

    def move(self):
        return self.chance.choice([
            ("lock", self.key(), self.amount(), self.height()), ("paid", self.number(), self.number()),
            ("dropped", self.number()), ("back", self.number()), ("transfer", self.amount()), ("finish",),
        ])

    def word(self):
        step = tuple([self.move() for _ in range(self.chance.choice([0, 1, 1, 2, 4]))])
        return self.chance.choice([
            ("opening", self.opening()), ("step", self.number(), self.number(), step),
            ("answer", self.number(), self.number()), ("splice", self.splice()), ("turn", self.number()),
        ])

    def wish(self):
        return self.chance.choice([
            ("open", self.opening()), ("pay", self.number(), self.key(), self.amount(), self.height()),
            ("give", self.number(), self.number(), self.number(), self.amount(), self.height()),
            ("refuse", self.number(), self.number()), ("transfer", self.number(), self.amount()),
            ("finish", self.number()), ("splice", self.splice()), ("leave", self.number()),
            ("invoice", self.number(), self.amount()),
        ])

    def deed(self):
        kind = self.chance.choice(["wish"] * 8 + ["say"] * 4 + ["tell", "offer", "offer", "letter", "letter", "block"])
        if kind == "wish":
            return ("wish", self.number(), self.wish())
        if kind == "say":
            return ("say", self.number(), self.number(), self.word())
        if kind == "offer":
            return ("offer", self.thing())
        if kind == "letter":
            return (self.chance.choice(["deliver", "deliver", "deliver", "lose", "copy"]), self.number())
        if kind == "block":
            return self.chance.choice([("block",), ("stop", self.number())])
        return ("tell", self.number())


class AnyDeedsTest(unittest.TestCase):
    def test_any_deeds(self):
        done = {}
        for seed in range(4):
            street = Street(seed)
            deeds = AnyDeeds(seed, street.town)
            for _ in range(400):
                street.advance()
                for _ in range(3):
                    deed = deeds.deed()
                    self.assertTrue(is_deed(deed), deed)
                    self.check(street, deed, done)
            text = town_text(street.town)
            self.assertEqual(town_text(read_town(text)), text)
        for kind in ("offer", "say", "deliver", "lose", "copy", "block", "tell", "wish", "stop"):
            self.assertGreater(done.get((kind, True), 0), 0, kind)
            if kind != "block":
                self.assertGreater(done.get((kind, False), 0), 0, kind)

    def check(self, street, deed, done):
        town = street.town
        before = town_fields(town)
        try:
            town.do(deed)
            done[deed[0], True] = done.get((deed[0], True), 0) + 1
        except TurnpikeError:
            self.assertEqual(town_fields(town), before)
            done[deed[0], False] = done.get((deed[0], False), 0) + 1
        self.assertEqual(town.ledger.all_money + town.ledger.burnt_so_far, street.money)


if __name__ == "__main__":
    unittest.main()
