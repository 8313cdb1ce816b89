"""Points 45, 46 and 55 to 57: what a party does when it is told a view."""

import unittest

from tests.helpers import (
    FEE, HEIGHT, KEY, OTHER, OTHER_KEY, SECRET, end_fields, end_with, footing_fields, lock_with, member_fields,
    opening_with, party_with, splice_with, view_fields, view_with,
)
from turnpike.ledger.vault import Vault
from turnpike.money.keys import key_of
from turnpike.party.party import Party


def vault_of(end, number=None, since=HEIGHT, state=None, **more):
    """Return the channel of the end on the ledger, with a published state of this number if one is told."""
    if number is not None:
        _, _, _, first_in, second_in, _, _ = end.opening
        state = (end.opening[0], number, first_in, second_in, (), False)
    return Vault(end.opening, published=state, since=None if state is None else since, **more)


def waits(act, tag=0, payer=1, hands=(1, 2)):
    """Return a thing that waits."""
    return (act, hands, payer, FEE, tag)


def proposing(end, *moves):
    """Return the end, which has proposed the moves."""
    end.propose(moves)
    return end


class TellingTest(unittest.TestCase):
    def tell(self, party, view, secrets=()):
        """Tell the party, and check that nothing that is told is changed."""
        before = view_fields(view)
        told = list(secrets)
        found = party.tell(view, told)
        self.assertEqual((view_fields(view), told), (before, list(secrets)))
        self.assertIs(type(found), tuple)
        self.assertEqual([type(part) for part in found], [list, list])
        return found

    def acts(self, things):
        return [thing[0] for thing in things]


class NewMemberTest(unittest.TestCase):
    def test_what_is_known_at_first(self):
        party = Party(3, party_with().now.settings)
        expected = {
            **member_fields(party_with().now), "number": 3, "height": 0, "receipts": [], "purse_known": 0, "ends": [],
            "given": [], "payments": [], "invoices": [], "secrets": [], "noted_keys": [], "had": [], "tag": 0,
            "pending": 0, "bids": [],
        }
        self.assertEqual(member_fields(party.now), expected)
        self.assertEqual(member_fields(party.kept), expected)


class SeeingTest(TellingTest):
    def test_height_receipts_and_purse(self):
        party = party_with(receipts={9: 9})
        view = view_with(height=123, purses=[(2, 5), (1, 77)], receipts=[(KEY, 5), (3, 4)])
        self.assertEqual(self.tell(party, view), ([], []))
        self.assertEqual((party.now.height, party.now.purse_known), (123, 77))
        self.assertEqual(list(party.now.receipts.items()), [(KEY, 5), (3, 4)])

    def test_a_party_without_a_purse(self):
        party = party_with()
        self.tell(party, view_with(purses=[(2, 5)]))
        self.assertEqual(party.now.purse_known, 0)

    def test_the_view_is_not_kept(self):
        party = party_with(end_with())
        view = view_with(vault_of(end_with()), receipts=[(KEY, 5)])
        self.tell(party, view)
        before = member_fields(party.now)
        view.receipts[OTHER_KEY] = 6
        view.purses[1] = 0
        view.vaults[7].sums = (9, 9, 9, 9)
        view.height = 999
        self.assertEqual(member_fields(party.now), before)
        party.now.receipts[3] = 3
        self.assertEqual(list(view.receipts.items()), [(KEY, 5), (OTHER_KEY, 6)])

    def test_secrets_are_learned_once(self):
        party = party_with()
        party.now.secrets.extend([9, 8])
        self.tell(party, view_with(), [7, 8, 7, 0])
        self.assertEqual(party.now.secrets, [9, 8, 7, 0])

    def test_the_list_of_secrets_is_not_kept(self):
        party = party_with()
        told = [7]
        party.tell(view_with(), told)
        told.append(8)
        self.assertEqual(party.now.secrets, [7])

    def test_nothing_else_changes(self):
        party = party_with()
        for name in ("given", "payments", "invoices", "noted_keys", "had", "bids"):
            getattr(party.now, name).append((KEY, 5))
        party.now.tag = 9
        before = member_fields(party.now)
        self.tell(party, view_with(height=101))
        self.assertEqual(member_fields(party.now), {**before, "height": 101})


class EndsTest(TellingTest):
    def kept(self, end, *vaults, **more):
        """Tell whether the party keeps the end."""
        party = party_with(end)
        self.tell(party, view_with(*vaults, **more))
        self.assertEqual(party.now.had, [end.opening[0]])
        if party.now.ends == []:
            return None
        self.assertEqual(len(party.now.ends), 1)
        return party.now.ends[0]

    def test_a_channel_that_is_seen(self):
        for there in (True, False):
            found = self.kept(end_with(number=4, there=there), vault_of(end_with(), sums=(9, 1, 6, 2), splices=3))
            self.assertEqual(end_fields(found), (
                opening_with(), True, end_with(number=4).last, None, None, False, False, ((9, 1, 6, 2), 3, []), True,
            ))

    def test_a_published_state_is_seen(self):
        found = self.kept(end_with(number=4), vault_of(end_with(), 4))
        self.assertEqual((found.frozen, found.leaving), (True, False))

    def test_open_splices_at_the_height_of_the_view(self):
        for height, many in ((109, 1), (110, 1), (111, 0)):
            found = self.kept(end_with(splices=[splice_with(until=110)]), vault_of(end_with()), height=height)
            self.assertEqual(len(footing_fields(found.footing)[2]), many)

    def test_an_end_that_is_not_seen_yet(self):
        for height in (0, 100, 999, 1000):
            found = self.kept(end_with(there=False), height=height)
            self.assertEqual(end_fields(found), end_fields(end_with(there=False)))

    def test_an_end_that_is_late(self):
        self.assertIsNone(self.kept(end_with(there=False), height=1001))

    def test_a_late_end_whose_channel_is_there(self):
        self.assertIsNotNone(self.kept(end_with(there=False), vault_of(end_with()), height=1001))

    def test_an_end_that_was_there(self):
        self.assertIsNone(self.kept(end_with()))
        self.assertIsNone(self.kept(end_with(), vault_of(end_with(channel=8))))

    def test_a_channel_that_has_ended(self):
        self.assertIsNone(self.kept(end_with(there=False), ended=[7]))
        self.assertIsNone(self.kept(end_with(there=False), ended=[3, 7, 8]))
        self.assertIsNotNone(self.kept(end_with(there=False), ended=[8]))
        self.assertIsNone(self.kept(end_with(), ended=[7]))

    def test_another_opening(self):
        for there in (True, False):
            for opening in (
                opening_with(first_in=399), opening_with(second_in=599), opening_with(delay=11),
                opening_with(until=999), opening_with(7, 2, 1), opening_with(7, 1, 3),
            ):
                with self.subTest(there=there, opening=opening):
                    self.assertIsNone(self.kept(end_with(there=there), Vault(opening)))

    def test_the_ends_that_stay_keep_their_order(self):
        ends = [end_with(channel=channel, there=channel != 6) for channel in (9, 3, 6, 4, 7, 5)]
        party = party_with(*ends)
        self.tell(party, view_with(*[vault_of(ends[at]) for at in (4, 0, 3)]))
        self.assertEqual([(end.opening[0], end.there) for end in party.now.ends], [
            (9, True), (6, False), (4, True), (7, True),
        ])
        self.assertEqual(party.now.had, [9, 3, 6, 4, 7, 5])

    def test_payments_stay_when_an_end_is_forgotten(self):
        party = party_with(end_with())
        party.now.given.append((7, 8, lock_with(), lock_with()))
        party.now.payments.append((7, lock_with()))
        self.tell(party, view_with())
        self.assertEqual((len(party.now.ends), len(party.now.given), len(party.now.payments)), (0, 1, 1))

    def test_what_was_forgotten_is_not_wanted(self):
        end = end_with()
        end.leave()
        self.assertEqual(self.tell(party_with(end), view_with(Vault(opening_with(delay=11)))), ([], []))


class PendingTest(TellingTest):
    def check(self, expected, *waiting, done=(), vaults=(), **more):
        party = party_with()
        party.now.pending = 77
        self.tell(party, view_with(*vaults, waiting=waiting, done=done, **more))
        self.assertEqual(party.now.pending, expected)

    def test_no_things(self):
        self.check(0)

    def test_different_tags(self):
        pay = ("pay", 2, 3)
        self.check(1, waits(pay))
        self.check(3, waits(pay, 4), waits(pay, 3), waits(("reveal", SECRET), 9))
        self.check(1, waits(pay), waits(pay))
        self.check(1, waits(pay), waits(("reveal", SECRET)))

    def test_things_of_others(self):
        self.check(0, waits(("pay", 1, 3), payer=2), waits(("pay", 2, 3), payer=0))
        self.check(1, waits(("pay", 1, 3), payer=2), waits(("pay", 2, 3)))

    def test_tags_that_were_done(self):
        pay = ("pay", 2, 3)
        self.check(1, waits(pay), waits(pay, 1), done=[(1, 1)])
        self.check(0, waits(pay), waits(pay, 1), done=[(1, 1), (1, 0)])
        self.check(2, waits(pay), waits(pay, 1), done=[(2, 1), (2, 0), (0, 1)])

    def test_a_tag_with_one_thing_that_may_yet_be_done(self):
        settle = ("settle", 7)
        self.check(1, waits(settle), waits(("pay", 2, 3)))
        self.check(1, waits(("pay", 2, 3)), waits(settle))
        self.check(0, waits(settle), waits(settle))

    def test_pay(self):
        self.check(1, waits(("pay", 1, 10 ** 15)), height=10 ** 12)

    def test_open(self):
        act = ("open", opening_with(7, 1, 2, until=110))
        for height, expected in ((0, 1), (109, 1), (110, 1), (111, 0)):
            with self.subTest(height=height):
                self.check(expected, waits(act), height=height)
        self.check(0, waits(act), vaults=[Vault(opening_with())])
        self.check(1, waits(act), vaults=[Vault(opening_with(8))], ended=[8])
        self.check(0, waits(act), ended=[8, 7])

    def test_publish(self):
        act = ("publish", (7, 5, 1, 1, (), False))
        channel = Vault(opening_with())
        self.check(0, waits(act))
        self.check(0, waits(act), ended=[7])
        self.check(1, waits(act), vaults=[channel])
        self.check(0, waits(act), vaults=[Vault(opening_with(8))])
        self.check(1, waits(act), vaults=[channel], height=10 ** 12)

    def test_publish_behind_another_state(self):
        act = ("publish", (7, 5, 1, 1, (), False))
        for number, since, expected in (
            (4, 100, 1), (5, 100, 0), (6, 100, 0), (4, 91, 1), (4, 90, 1), (4, 89, 0), (5, 89, 0), (0, 90, 1),
        ):
            with self.subTest(number=number, since=since):
                self.check(expected, waits(act), vaults=[vault_of(end_with(), number, since)])

    def test_settle(self):
        act = ("settle", 7)
        self.check(0, waits(act))
        self.check(0, waits(act), ended=[7])
        self.check(1, waits(act), vaults=[Vault(opening_with())])
        self.check(1, waits(act), vaults=[vault_of(end_with(), 4)], height=10 ** 12)
        self.check(0, waits(act), vaults=[Vault(opening_with(8))])

    def test_splice(self):
        act = ("splice", splice_with(until=110))
        self.check(0, waits(act))
        for height, expected in ((0, 1), (110, 1), (111, 0)):
            with self.subTest(height=height):
                self.check(expected, waits(act), vaults=[Vault(opening_with())], height=height)
        self.check(1, waits(act), vaults=[vault_of(end_with(), 4, splices=3)])
        self.check(0, waits(act), vaults=[Vault(opening_with(8))])

    def test_reveal(self):
        act = ("reveal", SECRET)
        self.check(1, waits(act))
        self.check(0, waits(act), receipts={KEY: 3})
        self.check(1, waits(act), receipts={SECRET: 3, OTHER_KEY: 3})

    def test_what_is_offered_is_counted_on_top(self):
        end = end_with()
        end.leave()
        party = party_with(end)
        party.now.pending = 77
        _, things = self.tell(party, view_with(vault_of(end), waiting=[waits(("pay", 2, 3))]))
        self.assertEqual((len(things), party.now.pending), (1, 2))


class DutiesTest(TellingTest):
    def check(self, expected, party, *vaults, words=(), secrets=(), **more):
        said, things = self.tell(party, view_with(*vaults, **more), secrets)
        self.assertEqual(self.acts(things), list(expected))
        self.assertEqual(said, list(words))
        return things

    def test_what_the_end_wants(self):
        end = end_with(number=4)
        publish = ("publish", end.last)
        self.check([], party_with(end), vault_of(end))
        self.check([publish], party_with(end), vault_of(end, 3))
        self.check([], party_with(end), vault_of(end, 4))
        self.check([("settle", 7)], party_with(end), vault_of(end, 4), height=111)
        end.leave()
        self.check([publish], party_with(end), vault_of(end))

    def test_an_end_that_is_seen_for_the_first_time(self):
        end = end_with(number=4, there=False)
        end.leave()
        self.check([("publish", end.last)], party_with(end), vault_of(end))
        self.check([], party_with(end))

    def test_the_things(self):
        for as_first, hands in ((True, (1, 2)), (False, (2, 1))):
            end = end_with(number=4, as_first=as_first)
            end.leave()
            party = party_with(end, fee=9)
            party.now.tag = 33
            things = self.check([("publish", end.last)], party, vault_of(end))
            self.assertEqual(things, [(("publish", end.last), hands, 1, 9, 33)])
            self.assertEqual((party.now.tag, party.now.pending), (34, 1))
        end = end_with((lock_with(deadline=105)), number=4)
        party = party_with(end)
        things = self.check(
            [("settle", 7), ("reveal", SECRET)], party, vault_of(end, 4, 50), secrets=[SECRET],
        )
        self.assertEqual([thing[1:] for thing in things], [((), 1, FEE, 0), ((), 1, FEE, 1)])
        self.assertEqual((party.now.tag, party.now.pending), (2, 2))

    def test_a_lock_that_must_be_shown(self):
        for deadline, expected in (
            (100, []), (101, [("reveal", SECRET)]), (110, [("reveal", SECRET)]), (111, []),
        ):
            end = end_with(lock_with(deadline=deadline), number=1)
            with self.subTest(deadline=deadline):
                party = party_with(end)
                # The lock is tidied away, too, and as it is the peer's turn, the party asks for the turn.
                self.check(expected, party, vault_of(end), words=[(2, ("turn", 7))], secrets=[SECRET])

    def test_no_secret(self):
        end = end_with(lock_with(deadline=105))
        self.check([], party_with(end), vault_of(end))

    def test_a_lock_that_was_opened(self):
        end = end_with(lock_with(deadline=105), number=1)
        self.check(
            [], party_with(end), vault_of(end), words=[(2, ("turn", 7))], secrets=[SECRET], receipts={KEY: 99}
        )

    def test_an_end_that_is_not_there(self):
        end = end_with(lock_with(deadline=105), there=False)
        self.check([], party_with(end), secrets=[SECRET])

    def test_an_invoice_for_a_lock_that_is_sure(self):
        end = end_with(lock_with(deadline=110), number=1)
        party = party_with(end, reveal_lead=10)
        party.now.invoices.append((SECRET, 50))
        self.check([("reveal", SECRET)], party, vault_of(end), words=[(2, ("turn", 7))])
        self.assertEqual(party.now.secrets, [SECRET])

    def test_an_invoice_that_may_not_be_revealed(self):
        end = end_with(lock_with(deadline=110))
        party = party_with(end, reveal_lead=11)
        party.now.invoices.append((SECRET, 50))
        self.check([], party, vault_of(end))
        self.assertEqual(party.now.secrets, [])

    def not_sure(self):
        """Return an end with a lock that goes to the party, is only in the open step, and must be shown."""
        end = end_with()
        end.step = ()
        end.next = end_with(lock_with(deadline=110), number=1).last
        return end

    def test_an_invoice_for_a_lock_that_is_not_sure(self):
        for end in (self.not_sure(), proposing(end_with(lock_with(deadline=110)), ("dropped", 0))):
            party = party_with(end, reveal_lead=10)
            party.now.invoices.append((SECRET, 50))
            words = [(2, ("step", 7, 1, end.step))]
            self.check([], party, vault_of(end), words=words)
            self.assertEqual(party.now.secrets, [])

    def test_a_known_secret_for_a_lock_that_is_not_sure(self):
        for end in (self.not_sure(), proposing(end_with(lock_with(deadline=110)), ("dropped", 0))):
            words = [(2, ("step", 7, 1, end.step))]
            self.check([("reveal", SECRET)], party_with(end), vault_of(end), words=words, secrets=[SECRET])

    def test_locks_of_both_states_in_order(self):
        end = end_with(lock_with(deadline=105), lock_with(OTHER_KEY, deadline=106))
        end.step = ()
        end.next = end_with(lock_with(key_of(8), deadline=107), lock_with(deadline=105), number=1).last
        words = [(2, ("step", 7, 1, ()))]
        self.check(
            [("reveal", SECRET), ("reveal", OTHER), ("reveal", 8)], party_with(end), vault_of(end), words=words,
            secrets=[8, OTHER, SECRET],
        )

    def test_end_by_end(self):
        ends = [end_with(lock_with(key_of(at), deadline=105), channel=at, number=4) for at in (9, 4, 7)]
        for end in ends:
            end.leave()
        self.check(
            [
                ("publish", ends[0].last), ("reveal", 9), ("publish", ends[1].last), ("reveal", 4),
                ("publish", ends[2].last), ("reveal", 7),
            ],
            party_with(*ends), *[vault_of(end) for end in ends], secrets=[4, 7, 9],
        )

    def test_a_duty_that_waits_already(self):
        end = end_with(lock_with(deadline=105), number=4)
        end.leave()
        publish, reveal = ("publish", end.last), ("reveal", SECRET)
        for waiting, expected in (
            ([waits(publish, 8)], [reveal]), ([waits(reveal, 8)], [publish]),
            ([waits(publish, 8), waits(reveal, 9)], []),
            ([waits(publish, payer=2), waits(reveal, payer=3)], [publish, reveal]),
            ([waits(("publish", end_with(number=4).last)), waits(("reveal", OTHER))], [publish, reveal]),
        ):
            with self.subTest(waiting=waiting):
                self.check(expected, party_with(end), vault_of(end), waiting=waiting, secrets=[SECRET])

    def test_a_duty_that_waits_but_is_done(self):
        end = end_with(number=4)
        end.leave()
        publish = ("publish", end.last)
        party = party_with(end)
        self.check([], party, vault_of(end), waiting=[waits(publish, 8)], done=[(1, 8)])
        self.assertEqual(party.now.pending, 0)

    def test_other_hands_and_fees_of_a_duty_that_waits(self):
        end = end_with(number=4)
        end.leave()
        thing = (("publish", end.last), (), 1, 0, 8)
        self.check([], party_with(end), vault_of(end), waiting=[thing])

    def test_a_duty_that_was_offered_just_now(self):
        ends = [end_with(lock_with(deadline=105), channel=channel, number=1) for channel in (7, 8)]
        words = [(2, ("turn", 7)), (2, ("turn", 8))]
        party = party_with(*ends)
        self.check([("reveal", SECRET)], party, *[vault_of(end) for end in ends], words=words, secrets=[SECRET])
        self.assertEqual((party.now.tag, party.now.pending), (1, 1))

    def test_a_duty_is_offered_again_at_the_next_telling(self):
        end = end_with(number=4)
        end.leave()
        party = party_with(end)
        for _ in range(2):
            self.check([("publish", end.last)], party, vault_of(end))
        self.assertEqual((party.now.tag, party.now.pending), (2, 1))

    def test_the_secrets_are_learned_behind_all_duties(self):
        # The lock of the second end is not sure, so it is shown for the sake of the first one alone.
        sure = end_with(lock_with(deadline=110), number=1)
        unsure = proposing(end_with(lock_with(deadline=110, amount=9), channel=8), ("dropped", 0))
        for ends in ((sure, unsure), (unsure, sure)):
            party = party_with(*ends, reveal_lead=10)
            party.now.invoices.append((SECRET, 50))
            words = [(2, ("step", 8, 1, unsure.step)), (2, ("turn", 7))]
            self.check([("reveal", SECRET)], party, *[vault_of(end) for end in ends], words=words)
            self.assertEqual(party.now.secrets, [SECRET])

    def test_the_secret_of_a_duty_that_waits_is_learned_too(self):
        end = end_with(lock_with(deadline=110), number=1)
        party = party_with(end, reveal_lead=10)
        party.now.invoices.append((SECRET, 50))
        self.check([], party, vault_of(end), words=[(2, ("turn", 7))], waiting=[waits(("reveal", SECRET), 3)])
        self.assertEqual(party.now.secrets, [SECRET])

    def test_things_are_offered_even_if_the_purse_is_empty(self):
        end = end_with(number=4)
        end.leave()
        self.check([("publish", end.last)], party_with(end), vault_of(end), purses=[])


class TalkingTest(TellingTest):
    def check(self, expected, *ends, things=(), secrets=(), vaults=None, given=(), invoices=(), **more):
        party = party_with(*ends)
        party.now.given.extend(given)
        party.now.invoices.extend(invoices)
        vaults = [vault_of(end) for end in ends if end.there] if vaults is None else vaults
        words, offered = self.tell(party, view_with(*vaults, **more), secrets)
        self.assertEqual(words, list(expected))
        self.assertEqual(self.acts(offered), list(things))
        return party

    def test_nothing_to_say(self):
        self.check([])
        self.check([], end_with(), end_with(channel=8, as_first=False), end_with(channel=9, there=False))
        self.check([], end_with(lock_with(), lock_with(from_first=True)))

    def test_a_step_that_is_said_again(self):
        ends = [
            proposing(end_with(), ("transfer", 9)), end_with(channel=8),
            proposing(end_with(channel=9, as_first=False, number=1)),
        ]
        words = [(2, ("step", 7, 1, (("transfer", 9),))), (2, ("step", 9, 2, ()))]
        party = self.check(words, *ends)
        self.assertEqual(
            [end_fields(end)[:6] for end in party.now.ends], [end_fields(end)[:6] for end in ends]
        )
        again = party.tell(view_with(*[vault_of(end) for end in ends]), [])
        self.assertEqual(again, (words, []))

    def test_a_frozen_end_says_nothing(self):
        end = proposing(end_with(lock_with(OTHER_KEY)), ("transfer", 9))
        end.leave()
        self.check([], end, things=[("publish", end.last)], secrets=[OTHER])
        end = proposing(end_with(), ("transfer", 9))
        self.check([], end, vaults=[vault_of(end, 0)])

    def test_a_step_that_has_just_come_to_stand(self):
        end = proposing(end_with(), ("transfer", 9))
        party = self.check([], end, vaults=[vault_of(end, 1)])
        self.assertEqual((party.now.ends[0].last, party.now.ends[0].step), (end.next, None))

    def test_an_end_that_is_not_there_says_its_step(self):
        end = end_with(there=False)
        end.propose(())
        self.check([(2, ("step", 7, 1, ()))], end)

    def test_a_tidying_that_is_proposed(self):
        end = end_with(lock_with())
        party = self.check([(2, ("step", 7, 1, (("paid", 0, SECRET),)))], end, secrets=[SECRET])
        proposing(end, ("paid", 0, SECRET))
        self.assertEqual(end_fields(party.now.ends[0]), end_fields(end))
        self.check([(2, ("step", 7, 1, (("back", 0),)))], end_with(lock_with(deadline=99, from_first=True)))
        given = [(7, 8, lock_with(), lock_with())]
        self.check([(2, ("step", 7, 1, (("dropped", 0),)))], end_with(lock_with()), given=given)

    def test_a_tidying_of_the_second_end(self):
        end = end_with(lock_with(from_first=True), as_first=False, number=1)
        self.check([(2, ("step", 7, 2, (("paid", 0, SECRET),)))], end, secrets=[SECRET])

    def test_turn(self):
        for end in (end_with(lock_with(), number=1), end_with(lock_with(from_first=True), as_first=False)):
            party = self.check([(2, ("turn", 7))], end, secrets=[SECRET])
            self.assertEqual(end_fields(party.now.ends[0]), end_fields(end))

    def test_no_turn_without_a_tidying(self):
        self.check([], end_with(number=1))
        self.check([], end_with(lock_with(), number=1))

    def test_no_turn_of_a_busy_end(self):
        end = end_with(lock_with(), number=1)
        end.step, end.next = (), end_with(lock_with(), number=2).last
        self.check([(2, ("step", 7, 2, ()))], end, secrets=[SECRET])
        end = end_with(lock_with(), number=1)
        end.leave()
        self.check([], end, secrets=[SECRET], things=[("publish", end.last)])
        end = end_with(lock_with(), number=1)
        end.frozen = True
        self.check([], end, secrets=[SECRET])

    def test_no_turn_when_it_is_its_turn(self):
        self.check([], end_with(lock_with(), final=True), secrets=[SECRET])
        self.check([(2, ("turn", 7))], end_with(lock_with(), final=True, number=1), secrets=[SECRET])

    def test_an_end_that_is_not_there_does_not_tidy_up(self):
        self.check([], end_with(lock_with(), there=False), secrets=[SECRET])
        self.check([], end_with(lock_with(), there=False, number=1), secrets=[SECRET])

    def test_an_end_that_is_seen_for_the_first_time(self):
        end = end_with(lock_with(), there=False)
        self.check([(2, ("step", 7, 1, (("paid", 0, SECRET),)))], end, secrets=[SECRET], vaults=[vault_of(end)])

    def test_steps_come_before_tidyings(self):
        ends = [
            end_with(lock_with(), channel=9), proposing(end_with(channel=8), ("transfer", 9)),
            end_with(lock_with(), channel=4, number=1), proposing(end_with(channel=7), ("transfer", 9)),
            end_with(lock_with(), channel=5),
        ]
        paid = (("paid", 0, SECRET),)
        self.check([
            (2, ("step", 8, 1, (("transfer", 9),))), (2, ("step", 7, 1, (("transfer", 9),))),
            (2, ("step", 9, 1, paid)), (2, ("turn", 4)), (2, ("step", 5, 1, paid)),
        ], *ends, secrets=[SECRET])

    def test_a_tidying_at_that_moment(self):
        # What the first end learns by its step, the second one uses.
        ends = [end_with(lock_with(), channel=8), end_with(lock_with(amount=9), channel=7)]
        paid = (("paid", 0, SECRET),)
        party = self.check(
            [(2, ("step", 8, 1, paid)), (2, ("step", 7, 1, paid))], *ends, invoices=[(SECRET, 50)]
        )
        self.assertEqual(party.now.secrets, [SECRET])
        self.check([(2, ("step", 8, 1, paid))], *ends[::-1], invoices=[(SECRET, 50)])

    def test_a_secret_that_was_just_shown_is_used(self):
        ends = [end_with(lock_with(deadline=110), channel=8, number=1), end_with(lock_with(amount=9), channel=7)]
        party = party_with(*ends, reveal_lead=10)
        party.now.invoices.append((SECRET, 50))
        words, things = self.tell(party, view_with(*[vault_of(end) for end in ends]))
        self.assertEqual(words, [(2, ("turn", 8)), (2, ("step", 7, 1, (("paid", 0, SECRET),)))])
        self.assertEqual(self.acts(things), [("reveal", SECRET)])

    def test_each_word_goes_to_the_peer(self):
        ends = [
            end_with(opening=opening_with(8, 1, 4)),
            proposing(end_with(opening=opening_with(7, 1, 3)), ("transfer", 9)),
            end_with(lock_with(), opening=opening_with(9, 1, 5), number=1),
        ]
        self.check(
            [(3, ("step", 7, 1, (("transfer", 9),))), (5, ("turn", 9))], *ends, secrets=[SECRET]
        )


if __name__ == "__main__":
    unittest.main()
