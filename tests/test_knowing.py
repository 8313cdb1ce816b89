"""Points 49 to 51, 53 and 58: what a party may do with locks, and free keys."""

import unittest

from tests.helpers import KEY, OTHER, OTHER_KEY, SECRET, end_with, lock_with, member_fields, party_with
from turnpike.money.keys import key_of
from turnpike.party.knowing import can_open, key_is_free, may_drop, must_show, secret_for, tidying
from turnpike.party.member import end_of


def member_with(*ends, invoices=(), secrets=(), given=(), payments=(), noted_keys=(), **more):
    """Return a member at height 100 that has these ends and lists."""
    member = party_with(*ends, **more).now
    member.invoices.extend(invoices)
    member.secrets.extend(secrets)
    member.given.extend(given)
    member.payments.extend(payments)
    member.noted_keys.extend(noted_keys)
    return member


class AskingTest(unittest.TestCase):
    def ask(self, function, member, *more):
        """Ask, and check that asking changes nothing."""
        before = member_fields(member)
        found = function(member, *more)
        self.assertEqual(member_fields(member), before)
        return found


class SecretForTest(AskingTest):
    def check(self, expected, lock=lock_with(), **more):
        self.assertEqual(self.ask(secret_for, member_with(**more), lock), expected)

    def test_nothing_is_known(self):
        self.check(None)
        self.check(None, secrets=[OTHER, 0], invoices=[(OTHER, 0)])

    def test_a_known_secret(self):
        self.check(SECRET, secrets=[OTHER, SECRET])
        self.check(SECRET, secrets=[SECRET, OTHER])
        self.check(0, lock_with(key_of(0)), secrets=[OTHER, 0])

    def test_a_known_secret_whatever_the_lock_is(self):
        for lock in (lock_with(deadline=3), lock_with(amount=0), lock_with(deadline=115), lock_with(from_first=True)):
            self.check(SECRET, lock, secrets=[SECRET])

    def test_an_invoice_with_the_amount(self):
        for asked, expected in ((0, SECRET), (49, SECRET), (50, SECRET), (51, None)):
            with self.subTest(asked=asked):
                self.check(expected, invoices=[(SECRET, asked)])

    def test_an_invoice_with_the_deadline(self):
        for deadline, expected in ((115, None), (116, SECRET), (117, SECRET), (100, None)):
            with self.subTest(deadline=deadline):
                self.check(expected, lock_with(deadline=deadline), invoices=[(SECRET, 50)])
        self.check(SECRET, lock_with(deadline=100), invoices=[(SECRET, 50)], reveal_lead=0)
        self.check(None, lock_with(deadline=99), invoices=[(SECRET, 50)], reveal_lead=0)

    def test_both_of_an_invoice(self):
        self.check(None, lock_with(amount=49, deadline=999), invoices=[(SECRET, 50)])
        self.check(None, lock_with(amount=999, deadline=115), invoices=[(SECRET, 50)])

    def test_the_key_of_the_invoice(self):
        self.check(SECRET, invoices=[(OTHER, 0), (SECRET, 50)])
        self.check(None, lock_with(OTHER_KEY), invoices=[(SECRET, 0)])

    def test_an_invoice_that_may_not_be_revealed_and_a_known_secret(self):
        self.check(SECRET, invoices=[(SECRET, 51)], secrets=[SECRET])
        self.check(SECRET, lock_with(deadline=115), invoices=[(SECRET, 50)], secrets=[OTHER, SECRET])
        self.check(SECRET, invoices=[(SECRET, 50)], secrets=[SECRET])

    def test_an_invoice_is_not_a_known_secret(self):
        self.check(None, invoices=[(SECRET, 51)], secrets=[OTHER])


class MustShowTest(AskingTest):
    def check(self, expected, lock, as_first=True, **more):
        member = member_with(end_with(lock, as_first=as_first), **more)
        self.assertIs(self.ask(must_show, member, member.ends[0], lock), expected)

    def test_the_deadline(self):
        for deadline, expected in (
            (0, False), (99, False), (100, False), (101, True), (109, True), (110, True), (111, False), (999, False),
        ):
            with self.subTest(deadline=deadline):
                self.check(expected, lock_with(deadline=deadline))

    def test_the_lead(self):
        self.check(False, lock_with(deadline=101), lead=0)
        self.check(True, lock_with(deadline=101), lead=1)
        self.check(False, lock_with(deadline=102), lead=1)

    def test_it_goes_to_the_party(self):
        self.check(True, lock_with(deadline=105))
        self.check(False, lock_with(deadline=105, from_first=True))
        self.check(True, lock_with(deadline=105, from_first=True), as_first=False)
        self.check(False, lock_with(deadline=105), as_first=False)

    def test_it_was_not_opened(self):
        self.check(False, lock_with(deadline=105), receipts={KEY: 105})
        self.check(False, lock_with(deadline=105), receipts={KEY: 0})
        self.check(True, lock_with(deadline=105), receipts={KEY: 106})
        self.check(True, lock_with(deadline=105), receipts={OTHER_KEY: 3})

    def test_the_secret_does_not_matter(self):
        self.check(True, lock_with(deadline=105), secrets=[SECRET])


class CanOpenTest(AskingTest):
    def check(self, expected, *ends, lock=lock_with(), channel=7, **more):
        self.assertIs(self.ask(can_open, member_with(*ends, **more), channel, lock), expected)

    def test_an_end_of_the_channel(self):
        self.check(True, end_with(lock_with()))
        self.check(False)
        self.check(False, end_with(lock_with(), channel=8))
        self.check(True, end_with(), end_with(lock_with(), channel=8), channel=8)
        self.check(False, end_with(lock_with()), end_with(channel=8), channel=8)

    def test_the_side_does_not_matter(self):
        for from_first in (True, False):
            for as_first in (True, False):
                lock = lock_with(from_first=from_first)
                self.check(True, end_with(lock, as_first=as_first), lock=lock)

    def test_the_lock_is_in_a_state(self):
        self.check(False, end_with())
        self.check(True, end_with(lock_with(OTHER_KEY), lock_with()))
        for other in (
            lock_with(OTHER_KEY), lock_with(amount=51), lock_with(deadline=121), lock_with(from_first=True),
        ):
            self.check(False, end_with(other))

    def test_the_lock_is_in_one_of_two_states(self):
        own = lock_with(from_first=True)
        end = end_with()
        end.propose((("lock", KEY, 50, 120),))
        self.check(True, end, lock=own)
        end = end_with(lock_with())
        end.propose((("dropped", 0),))
        self.check(True, end)
        end.hear_answer(1)
        self.check(False, end)

    def test_the_deadline(self):
        for deadline, expected in ((99, False), (100, True), (101, True), (0, False)):
            lock = lock_with(deadline=deadline)
            with self.subTest(deadline=deadline):
                self.check(expected, end_with(lock), lock=lock)

    def test_it_was_opened(self):
        lock = lock_with(deadline=90)
        self.check(True, end_with(lock), lock=lock, receipts={KEY: 90})
        self.check(False, end_with(lock), lock=lock, receipts={KEY: 91})
        self.check(False, end_with(), lock=lock, receipts={KEY: 90})

    def test_an_end_that_is_not_there_or_is_frozen(self):
        end = end_with(lock_with(), there=False)
        end.leave()
        self.check(True, end)


class MayDropTest(AskingTest):
    """A lock that came in in channel 7 was given on in channel 8, where it is back in time."""

    lock_in = lock_with()
    lock_out = lock_with(amount=40, deadline=99, from_first=True)

    def check(self, expected, *outer, given=None, **more):
        given = [(7, 8, self.lock_in, self.lock_out)] if given is None else given
        outer = outer or (end_with(self.lock_out, channel=8),)
        member = member_with(end_with(self.lock_in), *outer, given=given, **more)
        self.assertIs(self.ask(may_drop, member, member.ends[0], self.lock_in), expected)

    def test_a_lock_that_may_be_dropped(self):
        self.check(True)
        self.check(True, end_with(channel=8))
        self.check(True, end_with(channel=9))

    def test_one_that_was_opened(self):
        self.check(False, end_with(channel=8), receipts={KEY: 120})
        self.check(True, end_with(channel=8), receipts={KEY: 121})

    def test_one_with_a_secret(self):
        self.check(False, secrets=[SECRET])
        self.check(True, secrets=[OTHER])

    def test_one_with_an_invoice(self):
        self.check(False, invoices=[(SECRET, 50)])
        self.check(False, invoices=[(SECRET, 51)])
        self.check(True, invoices=[(OTHER, 0)])

    def test_one_that_was_not_given_on(self):
        self.check(False, given=[])
        self.check(False, given=[(9, 8, self.lock_in, self.lock_out)])
        self.check(False, given=[(7, 8, lock_with(amount=51), self.lock_out)])
        self.check(False, given=[(8, 7, self.lock_out, self.lock_in)])

    def test_one_that_can_still_be_opened(self):
        for deadline, expected in ((99, True), (100, False), (101, False)):
            lock_out = lock_with(amount=40, deadline=deadline, from_first=True)
            with self.subTest(deadline=deadline):
                self.check(
                    expected, end_with(lock_out, channel=8), given=[(7, 8, self.lock_in, lock_out)]
                )

    def test_one_that_was_opened_behind(self):
        self.check(False, given=[(7, 8, self.lock_in, self.lock_out)], receipts={KEY: 99}, secrets=[SECRET])
        # The receipt is too late for the lock that came in, so only the other one was opened.
        old = lock_with(deadline=90)
        member = member_with(
            end_with(old), end_with(self.lock_out, channel=8), given=[(7, 8, old, self.lock_out)], receipts={KEY: 95}
        )
        self.assertIs(self.ask(may_drop, member, member.ends[0], old), False)

    def test_one_that_an_open_step_still_has(self):
        end = end_with(lock_with(amount=40, from_first=True), channel=8)
        lock_out = lock_with(amount=40, from_first=True)
        end.propose((("back", 0),))
        self.check(False, end, given=[(7, 8, self.lock_in, lock_out)])
        end.hear_answer(1)
        self.check(True, end, given=[(7, 8, self.lock_in, lock_out)])

    def test_several_payments_with_the_lock(self):
        open_still = lock_with(amount=30, from_first=True)
        outer = (end_with(self.lock_out, channel=8), end_with(open_still, channel=9))
        other = [(7, 9, self.lock_in, open_still)]
        self.check(False, *outer, given=[(7, 8, self.lock_in, self.lock_out)] + other)
        self.check(False, *outer, given=other + [(7, 8, self.lock_in, self.lock_out)])
        self.check(True, *outer, given=[(7, 8, self.lock_in, self.lock_out), (9, 9, self.lock_in, open_still)])

    def test_the_out_channel_matters(self):
        lock_out = lock_with(amount=40, from_first=True)
        outer = (end_with(channel=8), end_with(lock_out, channel=9))
        self.check(True, *outer, given=[(7, 8, self.lock_in, lock_out)])
        self.check(False, *outer, given=[(7, 9, self.lock_in, lock_out)])


class KeyIsFreeTest(AskingTest):
    own = lock_with(from_first=True)

    def check(self, expected, *ends, **more):
        self.assertIs(self.ask(key_is_free, member_with(*ends, **more), KEY), expected)

    def test_a_key_that_nobody_used(self):
        self.check(True)
        self.check(
            True, end_with(lock_with()), secrets=[OTHER], invoices=[(OTHER, 1)], noted_keys=[OTHER_KEY],
            payments=[(7, lock_with(OTHER_KEY))],
        )

    def test_a_payment_that_was_given_on(self):
        self.check(False, noted_keys=[KEY])
        self.check(False, noted_keys=[OTHER_KEY, KEY])

    def test_an_invoice(self):
        self.check(False, invoices=[(SECRET, 50)])
        self.check(False, invoices=[(OTHER, 1), (SECRET, 10 ** 15)])

    def test_a_known_secret(self):
        self.check(False, secrets=[SECRET])
        self.check(False, secrets=[OTHER, SECRET])

    def test_an_own_payment_that_can_be_opened(self):
        self.check(False, end_with(self.own), payments=[(7, self.own)])
        for deadline, expected in ((99, True), (100, False)):
            own = lock_with(deadline=deadline, from_first=True)
            with self.subTest(deadline=deadline):
                self.check(expected, end_with(own), payments=[(7, own)])

    def test_an_own_payment_that_is_gone(self):
        self.check(True, end_with(), payments=[(7, self.own)])
        self.check(True, payments=[(7, self.own)])
        self.check(True, end_with(self.own, channel=8), payments=[(7, self.own)])

    def test_an_own_payment_that_was_opened(self):
        self.check(False, payments=[(7, self.own)], receipts={KEY: 120})
        self.check(False, end_with(), payments=[(7, self.own)], receipts={KEY: 120})
        self.check(True, payments=[(7, self.own)], receipts={KEY: 121})

    def test_each_of_several_payments(self):
        gone = lock_with(deadline=90, from_first=True)
        self.check(True, end_with(gone), payments=[(7, gone), (8, gone)])
        self.check(False, end_with(gone, self.own), payments=[(7, gone), (7, self.own)])
        self.check(False, end_with(gone, self.own), payments=[(7, self.own), (7, gone)])

    def test_payments_with_other_keys(self):
        other = lock_with(OTHER_KEY, from_first=True)
        self.check(True, end_with(other), payments=[(7, other)])


class TidyingTest(AskingTest):
    def check(self, expected, *locks, as_first=True, others=(), **more):
        member = member_with(end_with(*locks, as_first=as_first), *others, **more)
        self.assertEqual(self.ask(tidying, member, member.ends[0]), expected)

    def test_nothing(self):
        self.check(None)
        self.check(None, lock_with(), lock_with(from_first=True))

    def test_paid(self):
        self.check(("paid", 0, SECRET), lock_with(), secrets=[SECRET])
        self.check(("paid", 0, SECRET), lock_with(), invoices=[(SECRET, 50)])
        self.check(("paid", 0, SECRET), lock_with(from_first=True), as_first=False, secrets=[SECRET])

    def test_paid_up_to_the_deadline(self):
        for deadline, expected in ((99, None), (100, ("paid", 0, SECRET)), (101, ("paid", 0, SECRET))):
            with self.subTest(deadline=deadline):
                self.check(expected, lock_with(deadline=deadline), secrets=[SECRET])

    def test_paid_behind_the_deadline(self):
        self.check(("paid", 0, SECRET), lock_with(deadline=90), secrets=[SECRET], receipts={KEY: 90})
        self.check(None, lock_with(deadline=90), secrets=[SECRET], receipts={KEY: 91})

    def test_an_invoice_that_may_not_be_revealed(self):
        self.check(None, lock_with(), invoices=[(SECRET, 51)])
        self.check(None, lock_with(deadline=115), invoices=[(SECRET, 50)])

    def test_dropped(self):
        given = [(7, 8, lock_with(), lock_with(amount=40, from_first=True))]
        self.check(("dropped", 0), lock_with(), given=given)
        self.check(None, lock_with(), given=given, others=[end_with(lock_with(amount=40, from_first=True), channel=8)])
        self.check(("paid", 0, SECRET), lock_with(), given=given, secrets=[SECRET])

    def test_an_old_lock_with_a_secret_is_not_dropped(self):
        old = lock_with(deadline=90)
        self.check(None, old, given=[(7, 8, old, lock_with(amount=40, from_first=True))], secrets=[SECRET])

    def test_back(self):
        for as_first in (True, False):
            for deadline, expected in ((0, ("back", 0)), (99, ("back", 0)), (100, None), (101, None)):
                with self.subTest(as_first=as_first, deadline=deadline):
                    self.check(expected, lock_with(deadline=deadline, from_first=as_first), as_first=as_first)

    def test_an_own_lock_that_was_opened(self):
        old = lock_with(deadline=90, from_first=True)
        self.check(None, old, receipts={KEY: 90})
        self.check(("back", 0), old, receipts={KEY: 91})

    def test_an_own_lock_with_a_secret(self):
        self.check(None, lock_with(from_first=True), secrets=[SECRET])
        self.check(("back", 0), lock_with(deadline=90, from_first=True), secrets=[SECRET])

    def test_an_own_lock_is_never_dropped(self):
        own = lock_with(from_first=True)
        self.check(None, own, given=[(7, 8, own, lock_with(amount=40, from_first=True))])

    def test_a_lock_of_the_other_end_never_goes_back(self):
        self.check(None, lock_with(deadline=90))

    def test_the_first_one_that_gives_a_move(self):
        waits = lock_with(OTHER_KEY)
        old = lock_with(OTHER_KEY, deadline=90, from_first=True)
        mine = lock_with()
        self.check(("back", 1), waits, old, mine, secrets=[SECRET])
        self.check(("paid", 1, SECRET), waits, mine, old, secrets=[SECRET])
        self.check(("paid", 0, SECRET), mine, mine, secrets=[SECRET])
        self.check(("dropped", 2), waits, waits[:1] + (60,) + waits[2:], mine, given=[(7, 8, mine, mine)])

    def test_the_last_state_is_looked_at(self):
        end = end_with(lock_with())
        end.propose((("paid", 0, SECRET),))
        member = member_with(end, secrets=[SECRET])
        self.assertEqual(self.ask(tidying, member, member.ends[0]), ("paid", 0, SECRET))


class EndOfTest(AskingTest):
    def test_ends(self):
        member = member_with(end_with(), end_with(channel=8), end_with(channel=0))
        for at, channel in enumerate((7, 8, 0)):
            self.assertIs(self.ask(end_of, member, channel), member.ends[at])
        self.assertIsNone(self.ask(end_of, member, 9))
        self.assertIsNone(self.ask(end_of, member_with(), 7))


if __name__ == "__main__":
    unittest.main()
