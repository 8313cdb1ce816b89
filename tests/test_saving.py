"""Points 4 and 59: what is kept of arguments, what is saved, stopping, and copies."""

import unittest

from tests.helpers import (
    KEY, PLAIN_SETTINGS, SECRET, end_with, member_fields, opening_with, party_fields, party_with, settings_with,
    splice_with, view_with,
)
from turnpike.errors import NotNow
from turnpike.ledger.vault import Vault
from turnpike.party.member import Member, copy_member
from turnpike.party.party import Party, copy_party


def full_party():
    """Return a party with something in each field, which differs from what it has saved."""
    end = end_with((KEY, 50, 120, False), number=2, splices=[splice_with(first_in=3)])
    end.propose((("paid", 0, SECRET),))
    party = party_with(end, end_with(channel=8, as_first=False, there=False), receipts={3: 4})
    now = party.now
    now.given.append((7, 8, (KEY, 5, 120, False), (KEY, 4, 110, True)))
    now.payments.append((7, (3, 5, 120, True)))
    now.invoices.append((9, 50))
    now.secrets.append(SECRET)
    now.noted_keys.append(KEY)
    now.had.append(5)
    now.tag = 6
    now.pending = 2
    now.bids.append(("open", opening_with(8, 2, 1)))
    return party


class NewPartyTest(unittest.TestCase):
    def test_the_fields(self):
        party = Party(3, settings_with(fee=9))
        self.assertEqual(party_fields(party), (
            member_fields(Member(3, settings_with(fee=9))), member_fields(Member(3, settings_with(fee=9))), True,
        ))
        self.assertIsInstance(party.now, Member)
        self.assertIsInstance(party.kept, Member)
        self.assertIsNot(party.now, party.kept)
        self.assertEqual(party.now.settings, settings_with(fee=9))

    def test_a_change_of_the_settings_is_not_seen(self):
        settings = settings_with(fee=9)
        party = Party(3, settings)
        settings.fee = 8
        self.assertEqual([party.now.settings.fee, party.kept.settings.fee], [9, 9])


class SavingTest(unittest.TestCase):
    def check_saved(self, party):
        self.assertEqual(member_fields(party.kept), member_fields(party.now))
        self.assertIsNot(party.kept, party.now)
        for kept, now in zip(party.kept.ends, party.now.ends):
            self.assertIsNot(kept, now)

    def test_a_telling_at_which_nothing_is_said_or_offered(self):
        party = party_with(end_with())
        before = member_fields(party.kept)
        party.tell(view_with(Vault(opening_with()), height=105), [3])
        self.assertEqual(member_fields(party.kept), before)
        self.assertEqual((party.now.height, party.now.secrets), (105, [3]))

    def test_a_telling_at_which_something_is_said(self):
        end = end_with()
        end.propose(())
        party = party_with(end)
        words, things = party.tell(view_with(Vault(opening_with()), height=105), [3])
        self.assertEqual((len(words), len(things)), (1, 0))
        self.check_saved(party)

    def test_a_telling_at_which_something_is_offered(self):
        end = end_with()
        end.leave()
        party = party_with(end)
        words, things = party.tell(view_with(Vault(opening_with()), height=105), [3])
        self.assertEqual((len(words), len(things)), (0, 1))
        self.check_saved(party)

    def test_each_word_that_it_hears(self):
        for sender, word in (
            (2, ("turn", 7)), (2, ("answer", 7, 1)), (2, ("splice", splice_with())), (2, ("step", 7, 9, ())),
        ):
            with self.subTest(word=word):
                party = party_with(end_with())
                party.tell(view_with(Vault(opening_with()), height=105), [3])
                self.assertEqual(party.kept.height, 100)
                party.hear(sender, word)
                self.assertEqual(party.kept.height, 105)
                self.check_saved(party)

    def test_a_wish_that_is_done(self):
        party = party_with(end_with())
        party.tell(view_with(Vault(opening_with()), height=105), [3])
        party.wish(("invoice", 9, 50))
        self.check_saved(party)

    def test_a_wish_that_is_not_done(self):
        party = party_with(end_with())
        party.tell(view_with(Vault(opening_with()), height=105), [3])
        before = party_fields(party)
        with self.assertRaises(NotNow):
            party.wish(("leave", 99))
        self.assertEqual(party_fields(party), before)

    def test_what_is_saved_does_not_change_later(self):
        party = party_with(end_with())
        party.wish(("invoice", 9, 50))
        before = member_fields(party.kept)
        party.tell(view_with(Vault(opening_with(), splices=1, sums=(1, 1, 1, 1)), receipts={3: 3}, height=105), [3])
        self.assertEqual(member_fields(party.kept), before)


class StoppingTest(unittest.TestCase):
    def test_a_party_that_stops_before_anything_was_saved(self):
        party = Party(1, settings_with())
        party.tell(view_with(height=105, receipts={3: 4}), [3])
        self.assertEqual(party.now.height, 105)
        party.stop()
        new = member_fields(Member(1, settings_with()))
        self.assertEqual(party_fields(party), (new, new, False))

    def test_it_becomes_what_was_saved(self):
        party = party_with(end_with())
        party.wish(("invoice", 9, 50))
        saved = member_fields(party.now)
        party.tell(view_with(height=105), [3])
        self.assertEqual(party.now.ends, [])
        party.stop()
        self.assertEqual(party_fields(party), (saved, saved, False))
        self.assertIsNot(party.now, party.kept)

    def test_stopping_twice(self):
        party = full_party()
        party.stop()
        before = party_fields(party)
        party.stop()
        self.assertEqual(party_fields(party), before)

    def test_it_hears_nothing(self):
        end = end_with(number=2)
        for word in (("turn", 7), ("step", 7, 2, ()), ("step", 7, 3, ()), ("answer", 7, 3), ("splice", splice_with())):
            with self.subTest(word=word):
                party = party_with(end)
                party.stop()
                before = party_fields(party)
                self.assertEqual(party.hear(2, word), ([], []))
                self.assertEqual(party_fields(party), before)

    def test_nothing_is_saved_while_it_is_asleep(self):
        party = party_with(end_with())
        party.stop()
        party.now.height = 55
        party.hear(2, ("turn", 7))
        self.assertEqual(party.kept.height, 100)

    def test_the_lists_of_a_sleeping_party_are_new(self):
        party = party_with(end_with())
        party.stop()
        words, things = party.hear(2, ("turn", 7))
        words.append(1)
        things.append(1)
        self.assertEqual(party.hear(2, ("turn", 7)), ([], []))

    def test_a_telling_wakes_it(self):
        for end in (end_with(), end_with(there=False)):
            party = party_with(end)
            party.stop()
            self.assertEqual(party.tell(view_with(Vault(opening_with()), height=105), [3]), ([], []))
            self.assertIs(party.awake, True)
            self.assertEqual(party.hear(2, ("turn", 7)), ([(2, ("step", 7, 1, ()))], []))
            party.wish(("invoice", 9, 50))

    def test_a_telling_that_wakes_does_what_a_telling_does(self):
        end = end_with()
        end.leave()
        party = party_with(end)
        party.stop()
        words, things = party.tell(view_with(Vault(opening_with())), [])
        self.assertEqual((words, [thing[0] for thing in things]), ([], [("publish", end.last)]))
        self.assertEqual(member_fields(party.kept), member_fields(party.now))

    def test_it_can_change_behind_a_stop(self):
        party = party_with(end_with())
        party.stop()
        party.tell(view_with(Vault(opening_with()), height=105), [])
        party.wish(("transfer", 7, 9))
        party.stop()
        self.assertEqual(party.now.ends[0].step, (("transfer", 9),))
        self.assertEqual(party.now.height, 105)

    def test_a_party_that_is_awake_stays_awake(self):
        party = party_with(end_with())
        party.tell(view_with(), [])
        party.hear(2, ("turn", 7))
        self.assertIs(party.awake, True)


class CopyMemberTest(unittest.TestCase):
    def change(self, member):
        member.height = 9
        member.receipts[8] = 8
        member.purse_known = 9
        member.ends[0].leave()
        member.ends[0].sign(splice_with())
        member.ends.append(end_with(channel=3))
        for name in ("given", "payments", "invoices", "secrets", "noted_keys", "had", "bids"):
            getattr(member, name).append((1, 2))
        member.tag = 99
        member.pending = 99

    def test_a_copy_is_equal(self):
        member = full_party().now
        copied = copy_member(member)
        self.assertIsInstance(copied, Member)
        self.assertIsNot(copied, member)
        self.assertEqual(member_fields(copied), member_fields(member))
        self.assertEqual(copied.settings, member.settings)
        new = Member(4, settings_with())
        self.assertEqual(member_fields(copy_member(new)), member_fields(new))

    def test_each_setting_is_copied(self):
        for name in PLAIN_SETTINGS:
            member = Member(4, settings_with(**{name: 99}))
            self.assertEqual(copy_member(member).settings, settings_with(**{name: 99}))

    def test_a_copy_is_apart(self):
        for changes_copy in (True, False):
            member = full_party().now
            copied = copy_member(member)
            self.change(copied if changes_copy else member)
            other = member if changes_copy else copied
            with self.subTest(changes_copy=changes_copy):
                self.assertEqual(member_fields(other), member_fields(full_party().now))


class CopyPartyTest(unittest.TestCase):
    def test_a_copy_is_equal(self):
        asleep = full_party()
        asleep.awake = False
        for party in (full_party(), asleep, Party(4, settings_with())):
            copied = copy_party(party)
            self.assertIsInstance(copied, Party)
            self.assertEqual(party_fields(copied), party_fields(party))
            self.assertIsNot(copied.now, copied.kept)
            for name in ("now", "kept"):
                self.assertIsNot(getattr(copied, name), getattr(party, name))

    def change(self, party):
        CopyMemberTest().change(party.now)
        CopyMemberTest().change(party.kept)
        party.awake = False

    def test_a_copy_is_apart(self):
        for changes_copy in (True, False):
            party = full_party()
            copied = copy_party(party)
            self.change(copied if changes_copy else party)
            other = party if changes_copy else copied
            with self.subTest(changes_copy=changes_copy):
                self.assertEqual(party_fields(other), party_fields(full_party()))

    def test_what_happens_to_one_does_not_change_the_other(self):
        party = full_party()
        copied = copy_party(party)
        copied.tell(view_with(Vault(opening_with()), height=105), [1, 2])
        copied.hear(2, ("answer", 7, 3))
        copied.wish(("leave", 7))
        copied.stop()
        self.assertEqual(party_fields(party), party_fields(full_party()))


if __name__ == "__main__":
    unittest.main()
