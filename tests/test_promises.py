"""Points 60 and 80 to 85: what is promised over long runs, whatever others do."""

import unittest

from tests.helpers import party_fields
from tests.streets import Street
from turnpike.ledger.things import channel_of
from turnpike.ledger.vault import fits
from turnpike.money.keys import key_of
from turnpike.party.needs import covers
from turnpike.party.party import copy_party

STEPS = 4000
# What a street must have seen, so that the promises were worth something.
SEEN = (
    "wish open", "wish pay", "wish give", "wish refuse", "wish transfer", "wish splice", "wish leave", "wish invoice",
    "stop", "lose", "copy", "say", "offer", "done open", "done publish", "done settle", "done splice", "done reveal",
    "done pay",
)


def subject_of(act):
    """Return what point 83 counts the act for."""
    if act[0] == "splice":
        return act[1][:2]
    if act[0] == "reveal":
        return key_of(act[1])
    return channel_of(act)


class Account:
    """What a party ought to have, as point 81 tells."""

    def __init__(self, purse):
        self.purse = purse
        self.gains = 0
        self.losses = 0
        self.asked = {}

    def due(self, member):
        """Return the least that the purse has when no channel of the party is on the ledger."""
        # For each key the last attempt counts, so that the later payments take the place of earlier ones.
        payments = {lock[0]: lock[1] for _, lock in member.payments}
        return self.purse + self.gains + sum(self.asked.values()) - self.losses - sum(payments.values())


class Promises:
    """Checks the promises before and behind each deed of a street."""

    def __init__(self, case):
        self.case = case
        self.accounts = {}
        self.leaves = []
        self.done = {}
        self.signed = {}
        self.tags = {}
        self.checks = 0

    def before(self, street, deed):
        for number in street.honest:
            self.accounts.setdefault(number, Account(street.town.ledger.purse(number)))
        self.actor, self.word = self.actor_and_word(street, deed)
        self.letters = len(street.town.letters) - (deed[0] == "deliver")
        self.things = len(street.town.things)
        self.hands = len(street.town.hands)
        if self.actor is None:
            return
        party = street.town.parties[self.actor]
        self.covered = covers(party.now)
        self.last = {end.opening[0]: end.last for end in party.now.ends}
        if deed[0] == "tell":
            # Point 60: another copy of the party is told the view for itself.
            self.other = copy_party(party)
            view = street.town.ledger.view_for(self.actor, list(self.last))
            self.told = self.other.tell(view, [each for each in street.town.shown if each not in party.now.secrets])

    def actor_and_word(self, street, deed):
        """Return the honest party to which the deed happens, or None, and the word that it hears, or None."""
        actor, word = None, None
        if deed[0] in ("tell", "wish", "stop"):
            actor = deed[1]
        elif deed[0] == "say":
            actor, word = deed[2:]
        elif deed[0] == "deliver":
            _, actor, word = street.town.letters[deed[1]]
        return (actor if actor in street.honest else None), word

    def after(self, street, deed, did):
        self.check_money(street)
        if deed[0] == "block":
            self.count_things(street, did)
            self.check_leaves(street)
        if self.actor is not None:
            self.follow(street, deed)
        for number in street.honest:
            self.check_last_states(street, number)
            self.check_purse(street, number)

    def follow(self, street, deed):
        """Check and count what the deed did to the party to which it happened."""
        member = street.member(self.actor)
        account = self.accounts[self.actor]
        if deed[0] == "tell":
            self.check_own_view(street)
        elif deed[0] != "stop" and self.covered:
            self.case.assertTrue(covers(member), ("point 85", deed))
        if deed[0] == "wish" and deed[2][0] == "transfer":
            account.losses += deed[2][2]
        if deed[0] == "wish" and deed[2][0] == "leave":
            self.note_leave(street, deed[2][1])
        if self.word is not None and self.word[0] == "step":
            end = street.find_end(self.actor, self.word[1])
            if end is not None and end.last != self.last[self.word[1]]:
                account.gains += sum([move[1] for move in self.word[3] if move[0] == "transfer"])
        self.count_invoices(street, member, account)
        self.check_signed(street)

    def check_signed(self, street):
        """Check that a party signs one state of each number, and tags its things differently."""
        for number, act in street.town.hands[self.hands:]:
            if act[0] == "publish":
                state = self.signed.setdefault((number, act[1][:2]), act[1])
                self.case.assertEqual(state, act[1], "one hand for each number")
        for thing in street.town.things[self.things:]:
            self.case.assertNotIn(thing[2::2], self.tags, "different tags")
            self.tags[thing[2::2]] = True

    def count_invoices(self, street, member, account):
        """Count the invoices whose secrets the party has shown to somebody now; nobody else knew them before."""
        asked = dict(member.invoices)
        words = [word for _, _, word in street.town.letters[self.letters:]]
        secrets = [move[2] for word in words if word[0] == "step" for move in word[3] if move[0] == "paid"]
        acts = [each[0] for each in street.town.things[self.things:]]
        secrets.extend([act[1] for act in acts if act[0] == "reveal"])
        account.asked.update({secret: asked[secret] for secret in secrets if secret in asked})

    def note_leave(self, street, channel):
        opening = street.find_end(self.actor, channel).opening
        settings = street.settings
        blocks = settings.far + settings.farthest + opening[5] + 3 * (street.bound + street.silence) + 6
        self.leaves.append((opening, street.height + blocks))

    def count_things(self, street, did):
        """Count the things of honest parties that a block did (point 83), and what others paid (point 81)."""
        for act, _, payer, fee, _ in did:
            if act[0] == "pay" and act[1] in street.honest:
                self.accounts[act[1]].gains += act[2]
            if payer in street.honest:
                self.accounts[payer].losses += fee
                key = (payer, act[0], subject_of(act))
                self.done[key] = self.done.get(key, 0) + 1
                self.case.assertLessEqual(self.done[key], 2 if act[0] == "publish" else 1, ("point 83", key))

    def check_money(self, street):
        ledger = street.town.ledger
        self.case.assertEqual(ledger.all_money + ledger.burnt_so_far, street.money, "point 80")

    def check_leaves(self, street):
        vaults = street.town.ledger.book.vaults
        for opening, height in self.leaves:
            if street.height >= height and opening[0] in vaults:
                self.case.assertNotEqual(vaults[opening[0]].opening, opening, "point 82")

    def check_last_states(self, street, number):
        for end in street.member(number).ends:
            vault = street.town.ledger.channel(end.opening[0])
            if vault is not None and vault.opening == end.opening:
                _, state_number, _, _, locks, final = end.last
                self.case.assertTrue(fits(vault, end.last), "point 84")
                self.case.assertGreaterEqual(state_number, vault.least, "point 84")
                self.case.assertFalse(final and locks, "point 84")

    def check_purse(self, street, number):
        ledger = street.town.ledger
        if number not in [party for vault in ledger.book.vaults.values() for party in vault.opening[1:3]]:
            self.checks += 1
            due = self.accounts[number].due(street.member(number))
            self.case.assertGreaterEqual(ledger.purse(number), due, "point 81")

    def check_own_view(self, street):
        town = street.town
        words, things = self.told
        self.case.assertEqual(party_fields(self.other), party_fields(town.parties[self.actor]), "point 60")
        self.case.assertEqual([(self.actor, *each) for each in words], town.letters[self.letters:], "point 60")
        self.case.assertEqual(things, town.things[self.things:], "point 60")


class StreetTest(unittest.TestCase):
    def run_street(self, seed):
        promises = Promises(self)
        street = Street(seed, honest=1 + seed % 3, silence=1 + seed % 4, quiet=seed % 2 == 1, watch=promises)
        for _ in range(STEPS):
            street.advance()
        street.leave_all()
        for _ in range(max([height for _, height in promises.leaves], default=0) - street.height):
            street.block()
        for number in street.honest:
            openings = [end.opening for end in street.member(number).ends]
            vaults = street.town.ledger.book.vaults.values()
            self.assertFalse([vault for vault in vaults if vault.opening in openings], "point 82")
        return street, promises

    def test_streets(self):
        seen, checks = {}, 0
        for seed in range(12):
            with self.subTest(seed=seed):
                street, promises = self.run_street(seed)
                checks += promises.checks
                for kind, many in street.many.items():
                    seen[kind] = seen.get(kind, 0) + many
        for kind in SEEN:
            self.assertGreater(seen.get(kind, 0), 0, kind)
        self.assertGreater(checks, 1000)


if __name__ == "__main__":
    unittest.main()
