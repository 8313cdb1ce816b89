"""Point 60: a party that is told the view for itself does what it does when it is told the whole view."""

import random
import unittest

from tests.helpers import (
    HEIGHT, KEY, SECRET, end_with, opening_with, party_fields, party_with, settings_with, splice_with, thing,
)
from turnpike.errors import NotNow
from turnpike.ledger.ledger import Ledger
from turnpike.ledger.vault import Vault
from turnpike.money.keys import key_of
from turnpike.party.party import Party, copy_party


class OwnViewTest(unittest.TestCase):
    def tell_both(self, party, ledger, secrets=()):
        """Tell the party the whole view, and a copy of it the view for itself; they do the same."""
        channels = [end.opening[0] for end in party.now.ends]
        other = copy_party(party)
        found = other.tell(ledger.view_for(party.now.number, channels), list(secrets))
        expected = party.tell(ledger.view(), list(secrets))
        self.assertEqual(found, expected)
        self.assertEqual(party_fields(other), party_fields(party))
        return expected


class FewViewsTest(OwnViewTest):
    def ledger(self, *vaults, ended=(), done=(), waiting=(), receipts=()):
        ledger = Ledger([(2, 50), (1, 900), (3, 70)], room=1)
        ledger.book.vaults.update({vault.opening[0]: vault for vault in vaults})
        ledger.book.ended.extend(ended)
        ledger.book.done.extend(done)
        ledger.book.receipts.update(receipts)
        ledger.book.height = HEIGHT
        ledger.waiting.extend(waiting)
        return ledger

    def test_the_purse_and_the_receipts(self):
        party = party_with()
        self.tell_both(party, self.ledger(receipts={KEY: 3}))
        self.assertEqual((party.now.purse_known, party.now.receipts), (900, {KEY: 3}))

    def test_ends_that_are_kept_and_forgotten(self):
        ends = [end_with(channel=channel, there=channel % 2 == 0) for channel in (2, 3, 4, 5, 6, 7)]
        party = party_with(*ends)
        openings = [opening_with(2), opening_with(3), opening_with(6, delay=11), opening_with(9)]
        self.tell_both(party, self.ledger(*[Vault(opening) for opening in openings], ended=[8, 5, 4]))
        self.assertEqual([(end.opening[0], end.there) for end in party.now.ends], [(2, True), (3, True), (7, False)])

    def test_pending_things(self):
        acts = (
            ("open", opening_with(8)), ("open", opening_with(9)), ("publish", (9, 5, 1, 1, (), False)),
            ("publish", (8, 5, 1, 1, (), False)), ("settle", 9), ("settle", 8), ("splice", splice_with(9)),
            ("splice", splice_with(8)), ("open", opening_with(4)), ("pay", 2, 3), ("reveal", SECRET),
        )
        for payer in (1, 2):
            waiting = [thing(act, (), payer, 5, tag) for tag, act in enumerate(acts)]
            for done, many in (([], 6), ([(1, 0), (2, 2)], 5)):
                party = party_with()
                self.tell_both(party, self.ledger(Vault(opening_with(9)), ended=[4], done=done, waiting=waiting))
                with self.subTest(payer=payer, done=done):
                    self.assertEqual(party.now.pending, many if payer == 1 else 0)

    def test_duties_that_wait(self):
        end = end_with((KEY, 50, 105, False), number=4)
        end.leave()
        for payer, many in ((1, 0), (2, 2)):
            waiting = [
                thing(act, (), payer, 5, tag) for tag, act in enumerate([("publish", end.last), ("reveal", SECRET)])
            ]
            party = party_with(end)
            words, things = self.tell_both(party, self.ledger(Vault(opening_with()), waiting=waiting), [SECRET])
            with self.subTest(payer=payer):
                self.assertEqual((words, len(things)), ([], many))


class World:
    """Honest parties, a ledger that is often full, and messages that are lost, late or repeated."""

    def __init__(self, seed):
        self.chance = random.Random(seed)
        self.ledger = Ledger([(1, 4000), (2, 4000), (3, 4000), (9, 300)], room=2)
        numbers = {"fee": 10, "lead": 6, "margin": 6, "delay": 3, "far": 20, "least": 1, "farthest": 40,
                   "reveal_lead": 5, "base": 1, "per_mille": 0, "gap": 6}
        self.parties = {number: Party(number, settings_with(**numbers)) for number in (1, 2, 3)}
        self.letters = []
        self.shown = []
        self.tags = 0
        self.seen = {}

    def take(self, sender, found):
        """Take what a party says and offers."""
        words, things = found
        self.letters.extend([(sender, receiver, word) for receiver, word in words])
        for each in things:
            self.ledger.offer(each)
        for kind in [word[0] for _, word in words] + [each[0][0] for each in things]:
            self.seen[kind] = self.seen.get(kind, 0) + 1

    def wish(self, number, wanted):
        try:
            self.take(number, self.parties[number].wish(wanted))
        except NotNow:
            pass

    def block(self):
        self.tags += 1
        self.ledger.offer(thing(("pay", 9, 0), (), 9, self.chance.choice([1, 12]), self.tags))
        for act, _, _, _, _ in self.ledger.block():
            if act[0] == "reveal":
                self.shown.append(act[1])

    def deliver(self):
        sender, receiver, word = self.letters.pop(0 if self.chance.random() < 0.9 else -1)
        if self.chance.random() < 0.95:
            self.take(receiver, self.parties[receiver].hear(sender, word))

    def random_wish(self):
        number = self.chance.choice([1, 2, 3])
        ends = self.parties[number].now.ends
        height = self.ledger.height_now
        if len(ends) < 3:
            other = self.chance.choice([each for each in (1, 2, 3) if each != number])
            self.tags += 1
            opening = (self.tags, number, other, 300, self.chance.choice([0, 300]), 3, height + 15)
            self.wish(number, ("open", opening))
            self.wish(other, ("open", opening))
            return
        end = self.chance.choice(ends)
        self.wish_at(number, end, end.opening[0], height)

    def wish_at(self, number, end, channel, height):
        chance = self.chance
        kind = chance.choice(["transfer", "pay", "pay", "give", "give", "refuse", "turn", "turn", "splice", "leave"])
        if kind == "transfer":
            self.wish(number, ("transfer", channel, 3))
        elif kind == "pay":
            # Each receiver has invoices with the secrets 100 times its number, and so on.
            secret = 100 * chance.choice([1, 2, 3]) + chance.randint(0, 20)
            self.wish(number, ("pay", channel, key_of(secret), 20, height + chance.randint(8, 30)))
        elif kind == "give":
            other = chance.choice(self.parties[number].now.ends)
            for place, lock in enumerate(end.last[4]):
                self.wish(number, ("give", channel, place, other.opening[0], lock[1] - 2, lock[2] - 7))
        elif kind == "refuse":
            self.wish(number, ("refuse", channel, 0))
        elif kind == "turn":
            self.letters.append((end.peer(), number, ("turn", channel)))
        elif kind == "splice":
            amounts = [chance.choice([0, 0, 9]) for _ in range(4)]
            splice = (channel, end.footing.taken, 0, height + 8, *amounts)
            self.wish(number, ("splice", splice))
            self.wish(end.peer(), ("splice", splice))
        elif chance.random() < 0.1:
            self.wish(number, ("leave", channel))


class ManyViewsTest(OwnViewTest):
    def test_random_worlds(self):
        seen = {}
        for seed in range(6):
            world = World(seed)
            for number in (1, 2, 3):
                for more in range(20):
                    world.wish(number, ("invoice", 100 * number + more, 15))
            for _ in range(1500):
                self.advance(world)
            for kind, many in world.seen.items():
                seen[kind] = seen.get(kind, 0) + many
        # The worlds are of use only if all of this happens in them.
        for kind in ("step", "answer", "opening", "splice", "turn", "open", "publish", "settle", "reveal"):
            self.assertGreater(seen.get(kind, 0), 0, kind)

    def advance(self, world):
        dice = world.chance.random()
        number = world.chance.choice([1, 2, 3])
        if dice < 0.1:
            world.block()
        elif dice < 0.3:
            party = world.parties[number]
            secrets = [secret for secret in world.shown if secret not in party.now.secrets]
            world.take(number, self.tell_both(party, world.ledger, secrets))
        elif dice < 0.65 and world.letters:
            world.deliver()
        elif dice < 0.655:
            world.parties[number].stop()
        else:
            world.random_wish()


if __name__ == "__main__":
    unittest.main()
