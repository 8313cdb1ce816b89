"""Points 52 and 58: the wishes of a party."""

import unittest

from tests.helpers import (
    FEE, KEY, OTHER, OTHER_KEY, SECRET, end_fields, end_with, lock_with, member_fields, opening_with,
    party_fields, party_with, splice_with,
)
from turnpike.errors import NotNow

END = 3 * FEE


def busy(end):
    """Return the end with an open step."""
    end.step, end.next = (), end.last[:1] + (end.last[1] + 1,) + end.last[2:]
    return end


def frozen(end):
    """Return the end, which sees a published state."""
    end.frozen = True
    return end


class WishingTest(unittest.TestCase):
    def refuse(self, party, wanted):
        """The wish cannot be done, and changes nothing."""
        before = party_fields(party)
        with self.assertRaises(NotNow):
            party.wish(wanted)
        self.assertEqual(party_fields(party), before)

    def do(self, party, wanted, words, **expected):
        """Do the wish; the party says these words, and only these fields change."""
        before = member_fields(party.now)
        found = party.wish(wanted)
        self.assertEqual(found, (words, []))
        self.assertIs(type(found), tuple)
        self.assertEqual(member_fields(party.now), {**before, **expected})
        self.assertEqual(member_fields(party.kept), member_fields(party.now))

    def check(self, done, party, wanted):
        """The wish is done or refused."""
        if done:
            words, things = party.wish(wanted)
            self.assertEqual(things, [])
        else:
            self.refuse(party, wanted)

    def proposed(self, end, *moves):
        """Return the fields of an end that has proposed the moves."""
        self.assertTrue(end.propose(moves))
        return [end_fields(end)]


class OpenTest(WishingTest):
    def opening(self, channel=7, first=1, second=2, **more):
        return opening_with(channel, first, second, **{"delay": 12, "until": 110, **more})

    def test_a_new_end(self):
        for first, second in ((1, 2), (2, 1)):
            opening = self.opening(7, first, second)
            end = end_with(opening=opening, as_first=first == 1, there=False)
            with self.subTest(first=first):
                self.do(
                    party_with(), ("open", opening), [(2, ("opening", opening))], ends=[end_fields(end)], had=[7]
                )

    def test_it_is_behind_the_others(self):
        party = party_with(end_with(channel=9), end_with(channel=3))
        party.wish(("open", self.opening()))
        self.assertEqual([end.opening[0] for end in party.now.ends], [9, 3, 7])
        self.assertEqual(party.now.had, [9, 3, 7])

    def test_the_parties(self):
        self.refuse(party_with(), ("open", self.opening(7, 2, 3)))
        self.refuse(party_with(), ("open", self.opening(7, 1, 1)))
        self.refuse(party_with(number=2), ("open", self.opening(7, 1, 3)))
        self.check(True, party_with(number=0), ("open", self.opening(7, 3, 0)))

    def test_the_delay(self):
        for delay, done in ((11, False), (12, True), (13, True), (0, False)):
            with self.subTest(delay=delay):
                self.check(done, party_with(), ("open", self.opening(delay=delay)))

    def test_until(self):
        for until, done in ((99, False), (100, True), (113, True), (114, False)):
            with self.subTest(until=until):
                self.check(done, party_with(), ("open", self.opening(until=until)))

    def test_a_channel_that_it_had(self):
        party = party_with()
        party.now.had.extend([8, 7, 9])
        self.refuse(party, ("open", self.opening()))
        self.check(True, party, ("open", self.opening(6)))
        self.refuse(party, ("open", self.opening(6)))

    def test_the_purse_covers_the_needs(self):
        for first, second, own in ((1, 2, 400), (2, 1, 600)):
            for purse, done in ((END + own - 1, False), (END + own, True)):
                with self.subTest(first=first, purse=purse):
                    self.check(done, party_with(purse=purse), ("open", self.opening(7, first, second)))

    def test_the_needs_of_other_ends_and_things(self):
        for purse, done in ((2 * END + 400 + 2 * FEE - 1, False), (2 * END + 400 + 2 * FEE, True)):
            party = party_with(end_with(channel=8), purse=purse)
            party.now.pending = 2
            self.check(done, party, ("open", self.opening()))


class ProposingTest(WishingTest):
    """Wishes that propose a step: when the party can propose it."""

    def check_proposing(self, wanted, *locks):
        """Check for a wish about channel 7, of which the party is the first end."""
        self.check(True, party_with(end_with(*locks)), wanted)
        self.refuse(party_with(), wanted)
        self.refuse(party_with(end_with(*locks, channel=8)), wanted)
        self.refuse(party_with(end_with(*locks, there=False)), wanted)
        self.refuse(party_with(end_with(*locks, number=1)), wanted)
        self.refuse(party_with(busy(end_with(*locks))), wanted)
        self.refuse(party_with(frozen(end_with(*locks))), wanted)
        self.refuse(party_with(end_with(*locks, final=True)), wanted)

    def test_pay(self):
        self.check_proposing(("pay", 7, KEY, 50, 110))

    def test_refuse(self):
        self.check_proposing(("refuse", 7, 0), lock_with())

    def test_transfer(self):
        self.check_proposing(("transfer", 7, 50))

    def test_finish(self):
        self.check_proposing(("finish", 7))


class PayTest(WishingTest):
    def test_a_payment(self):
        for as_first, number in ((True, 4), (False, 5)):
            end = end_with(number=number, as_first=as_first)
            move = ("lock", KEY, 50, 110)
            party = party_with(end)
            party.now.payments.append((3, lock_with(OTHER_KEY)))
            self.do(
                party, ("pay", 7, KEY, 50, 110), [(2, ("step", 7, number + 1, (move,)))], ends=self.proposed(end, move),
                payments=[(3, lock_with(OTHER_KEY)), (7, (KEY, 50, 110, as_first))],
            )

    def test_the_key_is_free(self):
        for done, lists in (
            (True, {}), (False, {"noted_keys": [KEY]}), (False, {"invoices": [(SECRET, 9)]}),
            (False, {"secrets": [SECRET]}), (False, {"payments": [(8, lock_with(from_first=True))]}),
            (True, {"payments": [(9, lock_with(from_first=True))]}),
            (True, {
                "noted_keys": [OTHER_KEY], "invoices": [(OTHER, 9)], "secrets": [OTHER],
                "payments": [(8, lock_with(OTHER_KEY, from_first=True))],
            }),
        ):
            with self.subTest(lists=lists):
                party = party_with(end_with(), end_with(lock_with(from_first=True), channel=8))
                for name, items in lists.items():
                    getattr(party.now, name).extend(items)
                self.check(done, party, ("pay", 7, KEY, 50, 110))

    def test_an_own_payment_that_was_opened(self):
        party = party_with(end_with(), receipts={KEY: 90})
        party.now.payments.append((9, lock_with(from_first=True)))
        self.refuse(party, ("pay", 7, KEY, 50, 110))

    def test_a_second_payment_with_the_key(self):
        party = party_with(end_with(), end_with(channel=8))
        self.check(True, party, ("pay", 7, KEY, 50, 110))
        self.refuse(party, ("pay", 8, KEY, 50, 110))
        self.check(True, party, ("pay", 8, OTHER_KEY, 50, 110))

    def test_the_deadline(self):
        for deadline, done in ((0, False), (99, False), (100, False), (101, True), (115, True), (116, False)):
            with self.subTest(deadline=deadline):
                self.check(done, party_with(end_with()), ("pay", 7, KEY, 50, deadline))

    def test_the_amount(self):
        for amount, done in ((0, False), (1, True), (400, True), (401, False)):
            with self.subTest(amount=amount):
                self.check(done, party_with(end_with()), ("pay", 7, KEY, amount, 110))
        end = end_with(splices=[splice_with(first_out=9)])
        self.check(True, party_with(end), ("pay", 7, KEY, 391, 110))
        self.check(False, party_with(end), ("pay", 7, KEY, 392, 110))

    def test_least_does_not_matter(self):
        self.check(True, party_with(end_with(), least=900), ("pay", 7, KEY, 1, 110))

    def test_the_number_of_locks(self):
        self.check(True, party_with(end_with(*[lock_with(OTHER_KEY, 1)] * 7)), ("pay", 7, KEY, 1, 110))
        self.check(False, party_with(end_with(*[lock_with(OTHER_KEY, 1)] * 8)), ("pay", 7, KEY, 1, 110))

    def test_the_purse_does_not_matter(self):
        self.check(True, party_with(end_with(), purse=0), ("pay", 7, KEY, 1, 110))


class GiveTest(WishingTest):
    """A lock of 100 came in in channel 7 and is given on in channel 8. The toll is (17, 18, 19)."""

    inner = lock_with(amount=100, deadline=130)
    wanted = ("give", 7, 0, 8, 80, 111)

    def check_give(self, done, inner=None, outer=None, wanted=None, lists=(), **more):
        ends = [inner or end_with(self.inner), outer or end_with(channel=8)]
        party = party_with(*ends, **more)
        for name, items in dict(lists).items():
            getattr(party.now, name).extend(items)
        self.check(done, party, wanted or self.wanted)
        if done:
            before = dict(lists).get("given", [])
            self.assertEqual(len(party.now.given), len(before) + 1)
        return party

    def test_a_payment_that_is_given_on(self):
        inner, outer = end_with(self.inner, number=1), end_with(channel=8, number=4)
        move = ("lock", KEY, 80, 111)
        party = party_with(inner, outer)
        party.now.given.append((1, 2, lock_with(OTHER_KEY), lock_with(OTHER_KEY)))
        party.now.noted_keys.append(OTHER_KEY)
        self.do(
            party, self.wanted, [(2, ("step", 8, 5, (move,)))], ends=[end_fields(inner)] + self.proposed(outer, move),
            given=[(1, 2, lock_with(OTHER_KEY), lock_with(OTHER_KEY)), (7, 8, self.inner, (KEY, 80, 111, True))],
            noted_keys=[OTHER_KEY, KEY],
        )

    def test_the_sides(self):
        inner_lock = lock_with(amount=100, deadline=130, from_first=True)
        party = party_with(end_with(inner_lock, as_first=False), end_with(channel=8, as_first=False, number=1))
        party.wish(self.wanted)
        self.assertEqual(party.now.given, [(7, 8, inner_lock, (KEY, 80, 111, False))])

    def test_two_channels(self):
        self.refuse(party_with(end_with(self.inner)), ("give", 7, 0, 7, 80, 111))

    def test_both_ends_are_there(self):
        self.check_give(True)
        self.check_give(False, inner=end_with(self.inner, there=False))
        self.check_give(False, outer=end_with(channel=8, there=False))
        self.refuse(party_with(end_with(self.inner)), self.wanted)
        self.refuse(party_with(end_with(channel=8)), self.wanted)

    def test_the_place(self):
        inner = end_with(lock_with(OTHER_KEY, 1), self.inner)
        self.check_give(True, inner, wanted=("give", 7, 1, 8, 80, 111))
        self.check_give(False, inner, wanted=("give", 7, 0, 8, 80, 111))
        self.check_give(False, inner, wanted=("give", 7, 2, 8, 80, 111))
        self.check_give(False, inner, wanted=("give", 7, 4294967295, 8, 80, 111))
        self.check_give(False, end_with(), wanted=("give", 7, 0, 8, 80, 111))

    def test_the_lock_goes_to_the_party(self):
        self.check_give(False, end_with(lock_with(amount=100, deadline=130, from_first=True)))

    def test_the_lock_is_sure(self):
        end = end_with(self.inner, lock_with(OTHER_KEY, 1))
        end.propose((("dropped", 1),))
        self.check_give(True, end)
        end = end_with(self.inner)
        end.propose((("dropped", 0),))
        self.check_give(False, end)

    def test_a_lock_of_an_open_step_is_not_in_the_last_state(self):
        end = busy(end_with())
        end.next = end_with(self.inner, number=1).last
        self.check_give(False, end)

    def test_the_lock_was_not_opened(self):
        self.check_give(False, receipts={KEY: 130})
        self.check_give(True, receipts={KEY: 131})

    def test_the_inner_end_is_not_frozen(self):
        self.check_give(False, frozen(end_with(self.inner)))

    def test_the_inner_end_may_wait_for_the_other_one(self):
        self.check_give(True, end_with(self.inner, number=1))
        self.check_give(True, busy(end_with(self.inner)))

    def test_an_own_payment_with_the_key(self):
        # The payment is gone, so the key would be free for another own payment.
        self.check_give(False, lists={"payments": [(9, lock_with(from_first=True))]})
        self.check_give(True, lists={"payments": [(9, lock_with(OTHER_KEY, from_first=True))]})

    def test_the_toll(self):
        # 80 asks for 80 + 17 + 2, and 81 for 81 + 17 + 2.
        for amount, done in ((81, True), (82, False), (1, True), (0, False)):
            with self.subTest(amount=amount):
                self.check_give(done, wanted=("give", 7, 0, 8, amount, 111))

    def test_the_gap(self):
        for deadline, done in ((111, True), (112, False), (101, True), (100, False), (99, False)):
            with self.subTest(deadline=deadline):
                self.check_give(done, wanted=("give", 7, 0, 8, 80, deadline))

    def test_farthest(self):
        inner = end_with(lock_with(amount=100, deadline=999))
        for deadline, done in ((115, True), (116, False)):
            with self.subTest(deadline=deadline):
                self.check_give(done, inner, wanted=("give", 7, 0, 8, 80, deadline))

    def test_the_key_is_free(self):
        self.check_give(False, lists={"noted_keys": [KEY]})
        self.check_give(False, lists={"invoices": [(SECRET, 9)]})
        self.check_give(False, lists={"secrets": [SECRET]})
        self.check_give(True, lists={"noted_keys": [OTHER_KEY], "invoices": [(OTHER, 9)], "secrets": [OTHER]})

    def test_it_is_not_given_on_twice(self):
        party = self.check_give(True)
        party.now.ends[1].hear_answer(1)
        party.hear(2, ("step", 8, 2, ()))
        self.refuse(party, self.wanted)

    def test_the_step_in_the_out_channel(self):
        self.check_give(False, outer=end_with(channel=8, number=1))
        self.check_give(False, outer=busy(end_with(channel=8)))
        self.check_give(False, outer=frozen(end_with(channel=8)))
        self.check_give(False, outer=end_with(channel=8, final=True))
        self.check_give(True, outer=end_with(channel=8, opening=opening_with(8, 1, 2, 80, 0)))
        self.check_give(False, outer=end_with(channel=8, opening=opening_with(8, 1, 2, 79, 0)))


class RefuseTest(WishingTest):
    def check_refuse(self, done, *locks, place=0, lists=(), **more):
        party = party_with(end_with(*(locks or (lock_with(),))), **more)
        for name, items in dict(lists).items():
            getattr(party.now, name).extend(items)
        self.check(done, party, ("refuse", 7, place))

    def test_a_lock_that_is_refused(self):
        for as_first, number in ((True, 4), (False, 5)):
            locks = (lock_with(OTHER_KEY, from_first=not as_first), lock_with(from_first=not as_first))
            end = end_with(*locks, number=number, as_first=as_first)
            party = party_with(end)
            step = (("dropped", 1),)
            self.do(
                party, ("refuse", 7, 1), [(2, ("step", 7, number + 1, step))], ends=self.proposed(end, *step)
            )

    def test_the_place(self):
        self.check_refuse(True)
        self.check_refuse(False, place=1)
        self.check_refuse(True, lock_with(OTHER_KEY), lock_with(), place=1)
        self.check_refuse(False, lock_with(OTHER_KEY), lock_with(), place=2)

    def test_the_lock_goes_to_the_party(self):
        self.check_refuse(False, lock_with(from_first=True))
        self.check_refuse(False, lock_with(deadline=90, from_first=True))

    def test_it_was_not_opened(self):
        self.check_refuse(False, receipts={KEY: 120})
        self.check_refuse(True, receipts={KEY: 121})

    def test_it_was_not_given_on_from_this_channel(self):
        self.check_refuse(False, lists={"given": [(7, 8, lock_with(), lock_with(amount=9))]})
        self.check_refuse(True, lists={"given": [(9, 8, lock_with(), lock_with(amount=9))]})
        self.check_refuse(True, lists={"given": [(7, 8, lock_with(amount=51), lock_with())]})
        self.check_refuse(True, lists={"given": [(8, 7, lock_with(amount=51), lock_with())]})
        self.check_refuse(
            False, lists={"given": [(9, 8, lock_with(), lock_with()), (7, 9, lock_with(), lock_with())]}
        )

    def test_the_key_alone_does_not_matter(self):
        self.check_refuse(True, lists={"noted_keys": [KEY], "payments": [(7, lock_with())]})

    def test_there_is_no_secret_for_it(self):
        self.check_refuse(False, lists={"secrets": [SECRET]})
        self.check_refuse(False, lists={"invoices": [(SECRET, 50)]})
        self.check_refuse(True, lists={"invoices": [(SECRET, 51)]})
        self.check_refuse(True, lock_with(deadline=115), lists={"invoices": [(SECRET, 50)]})
        self.check_refuse(True, lists={"secrets": [OTHER], "invoices": [(OTHER, 1)]})


class TransferTest(WishingTest):
    def test_a_transfer(self):
        for as_first, number in ((True, 4), (False, 5)):
            end = end_with(number=number, as_first=as_first)
            step = (("transfer", 9),)
            self.do(
                party_with(end), ("transfer", 7, 9), [(2, ("step", 7, number + 1, step))],
                ends=self.proposed(end, *step),
            )

    def test_the_amount(self):
        for amount, done in ((0, False), (1, True), (400, True), (401, False)):
            with self.subTest(amount=amount):
                self.check(done, party_with(end_with()), ("transfer", 7, amount))


class FinishTest(WishingTest):
    def test_a_finish(self):
        end = end_with(number=4)
        step = (("finish",),)
        self.do(party_with(end), ("finish", 7), [(2, ("step", 7, 5, step))], ends=self.proposed(end, *step))

    def test_open_splices(self):
        self.refuse(party_with(end_with(splices=[splice_with()])), ("finish", 7))
        self.check(True, party_with(end_with(), end_with(channel=8, splices=[splice_with(8)])), ("finish", 7))

    def test_locks(self):
        self.refuse(party_with(end_with(lock_with(from_first=True))), ("finish", 7))
        self.refuse(party_with(end_with(lock_with())), ("finish", 7))


class SpliceTest(WishingTest):
    def test_a_splice(self):
        for as_first in (True, False):
            end = end_with(as_first=as_first, splices=[splice_with(first_in=1)])
            splice = splice_with(second_out=5)
            party = party_with(end)
            end.sign(splice)
            self.do(party, ("splice", splice), [(2, ("splice", splice))], ends=[end_fields(end)])

    def test_the_same_one_twice(self):
        party = party_with(end_with())
        for many in (1, 2, 3, 4):
            self.check(True, party, ("splice", splice_with()))
            self.assertEqual(party.now.ends[0].footing.splices, [splice_with()] * many)
        self.refuse(party, ("splice", splice_with()))

    def test_the_end(self):
        wanted = ("splice", splice_with())
        self.refuse(party_with(), wanted)
        self.refuse(party_with(end_with(channel=8)), wanted)
        self.refuse(party_with(end_with(there=False)), wanted)
        self.refuse(party_with(frozen(end_with())), wanted)
        self.check(True, party_with(busy(end_with())), wanted)
        self.check(True, party_with(end_with(number=1)), wanted)

    def test_it_may_sign(self):
        for done, more in (
            (True, {}), (False, {"index": 1}), (False, {"since": 1}), (False, {"until": 99}), (True, {"until": 113}),
            (False, {"until": 114}), (False, {"first_out": 401}), (True, {"first_out": 400, "second_out": 600}),
            (False, {"second_out": 601}), (False, {"second_in": 10 ** 15 + 1}), (True, {"second_in": 10 ** 15}),
        ):
            with self.subTest(more=more):
                self.check(done, party_with(end_with()), ("splice", splice_with(**more)))
        self.refuse(party_with(end_with(final=True)), ("splice", splice_with()))

    def test_the_purse_covers_the_needs(self):
        for as_first in (True, False):
            name = "first_in" if as_first else "second_in"
            for purse, done in ((END + 70 - 1, False), (END + 70, True)):
                with self.subTest(as_first=as_first, purse=purse):
                    party = party_with(end_with(as_first=as_first), purse=purse)
                    self.check(done, party, ("splice", splice_with(**{name: 70})))

    def test_the_most_of_the_open_splices_counts(self):
        for amount, done in ((70, True), (60, True), (71, False)):
            party = party_with(end_with(splices=[splice_with(first_in=70)]), purse=END + 70)
            with self.subTest(amount=amount):
                self.check(done, party, ("splice", splice_with(first_in=amount)))

    def test_the_needs_of_other_ends_and_things(self):
        for purse, done in ((2 * END + 600 + 70 + 2 * FEE - 1, False), (2 * END + 600 + 70 + 2 * FEE, True)):
            party = party_with(end_with(), end_with(channel=8, as_first=False, there=False), purse=purse)
            party.now.pending = 2
            self.check(done, party, ("splice", splice_with(first_in=70)))


class LeaveTest(WishingTest):
    def test_leaving(self):
        for end in (end_with(), end_with(there=False), busy(end_with()), frozen(end_with()), end_with(final=True)):
            party = party_with(end_with(channel=8), end)
            end.leave()
            self.do(party, ("leave", 7), [], ends=[end_fields(end_with(channel=8)), end_fields(end)])

    def test_leaving_twice(self):
        party = party_with(end_with())
        self.check(True, party, ("leave", 7))
        self.check(True, party, ("leave", 7))

    def test_no_end(self):
        self.refuse(party_with(), ("leave", 7))
        self.refuse(party_with(end_with()), ("leave", 8))


class InvoiceTest(WishingTest):
    def test_an_invoice(self):
        party = party_with()
        self.do(party, ("invoice", SECRET, 50), [], invoices=[(SECRET, 50)])
        self.do(party, ("invoice", 0, 0), [], invoices=[(SECRET, 50), (0, 0)])

    def test_the_key(self):
        for done, lists in (
            (False, {"invoices": [(SECRET, 9)]}), (False, {"payments": [(7, lock_with())]}),
            (False, {"noted_keys": [KEY]}), (True, {"secrets": [SECRET]}),
            (True, {
                "invoices": [(OTHER, 50)], "payments": [(7, lock_with(OTHER_KEY))], "noted_keys": [OTHER_KEY, SECRET],
            }),
        ):
            with self.subTest(lists=lists):
                party = party_with()
                for name, items in lists.items():
                    getattr(party.now, name).extend(items)
                self.check(done, party, ("invoice", SECRET, 50))

    def test_the_same_invoice_twice(self):
        party = party_with()
        self.check(True, party, ("invoice", SECRET, 50))
        self.refuse(party, ("invoice", SECRET, 50))
        self.refuse(party, ("invoice", SECRET, 51))


class AsleepTest(WishingTest):
    def test_no_wish_can_be_done(self):
        for wanted in (
            ("open", opening_with(8, delay=12, until=110)), ("pay", 7, KEY, 50, 110), ("transfer", 7, 9), ("finish", 7),
            ("splice", splice_with()), ("leave", 7), ("invoice", SECRET, 50),
        ):
            with self.subTest(wanted=wanted):
                party = party_with(end_with())
                party.stop()
                self.refuse(party, wanted)


if __name__ == "__main__":
    unittest.main()
