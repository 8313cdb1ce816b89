"""Points 46, 48, 52 and 54: the words that a party hears."""

import unittest

from tests.helpers import (
    FEE, HEIGHT, KEY, OTHER, OTHER_KEY, SECRET, end_fields, end_with, lock_with, member_fields, opening_with,
    party_with, secret_with_key, splice_with,
)

END = 3 * FEE
NOTHING = ([], [])


class HearingTest(unittest.TestCase):
    def hear(self, party, word, sender=2):
        found = party.hear(sender, word)
        self.assertIs(type(found), tuple)
        self.assertEqual([type(part) for part in found], [list, list])
        self.assertEqual(member_fields(party.kept), member_fields(party.now))
        return found

    def check_nothing(self, party, word, sender=2):
        """The word has no effect."""
        before = member_fields(party.now)
        self.assertEqual(self.hear(party, word, sender), NOTHING)
        self.assertEqual(member_fields(party.now), before)

    def check_changes(self, party, before, **expected):
        """Only these fields of the party have changed."""
        self.assertEqual(member_fields(party.now), {**before, **expected})


class StrangeWordsTest(HearingTest):
    def words(self, channel=7):
        splice = splice_with(channel)
        step = ("step", channel, 1, ())
        return (
            ("opening", opening_with(channel)), step, ("step", channel, 0, ()), ("answer", channel, 1),
            ("splice", splice), ("turn", channel),
        )

    def party(self, **more):
        """Return a party on which each of the words would have an effect."""
        return party_with(
            end_with(there=False), end_with(as_first=False, number=0, splices=[splice_with(9)], channel=9), **more
        )

    def test_a_channel_of_which_the_party_has_no_end(self):
        for channel in (8, 0):
            for word in self.words(channel):
                with self.subTest(word=word):
                    self.check_nothing(self.party(), word)
                    self.check_nothing(party_with(), word)

    def test_a_stranger(self):
        for channel in (7, 9):
            for word in self.words(channel):
                for sender in (0, 1, 3):
                    with self.subTest(word=word, sender=sender):
                        self.check_nothing(self.party(), word, sender)

    def test_the_peer_of_another_channel(self):
        for word in self.words(7):
            self.check_nothing(
                party_with(end_with(), end_with(opening=opening_with(8, 1, 3), channel=8)), word, 3
            )


class OpeningTest(HearingTest):
    def party(self, as_first=True, first_in=400, second_in=600, there=False, **more):
        first, second = (1, 2) if as_first else (2, 1)
        opening = opening_with(7, first, second, first_in, second_in)
        end = end_with(opening=opening, as_first=as_first, there=there)
        return party_with(end, **more), opening

    def test_the_party_bids(self):
        for as_first, hands in ((True, (1, 2)), (False, (2, 1))):
            with self.subTest(as_first=as_first):
                party, opening = self.party(as_first)
                before = member_fields(party.now)
                act = ("open", opening)
                self.assertEqual(self.hear(party, ("opening", opening)), ([], [(act, hands, 1, FEE, 0)]))
                self.check_changes(party, before, tag=1, pending=1, bids=[act])

    def test_the_party_bids_if_it_alone_puts_in(self):
        for as_first in (True, False):
            party, opening = self.party(as_first, *((400, 0) if as_first else (0, 600)))
            words, things = self.hear(party, ("opening", opening))
            self.assertEqual((words, len(things)), ([], 1))

    def test_the_peer_alone_puts_in(self):
        for as_first in (True, False):
            party, opening = self.party(as_first, *((0, 600) if as_first else (400, 0)))
            before = member_fields(party.now)
            self.assertEqual(self.hear(party, ("opening", opening)), ([(2, ("opening", opening))], []))
            self.check_changes(party, before)

    def test_the_least_amounts(self):
        for as_first in (True, False):
            own, others = ((1, 0), (0, 1)) if as_first else ((0, 1), (1, 0))
            party, opening = self.party(as_first, *own)
            words, things = self.hear(party, ("opening", opening))
            self.assertEqual((words, [each[0] for each in things]), ([], [("open", opening)]))
            party, opening = self.party(as_first, *others)
            self.assertEqual(self.hear(party, ("opening", opening)), ([(2, ("opening", opening))], []))

    def test_nobody_puts_in(self):
        for as_first in (True, False):
            party, opening = self.party(as_first, 0, 0)
            self.check_nothing(party, ("opening", opening))

    def test_an_end_that_is_there(self):
        for amounts in ((400, 600), (0, 600)):
            party, opening = self.party(True, *amounts, there=True)
            self.check_nothing(party, ("opening", opening))

    def test_another_opening(self):
        for other in (
            opening_with(7, 1, 2, 401, 600), opening_with(7, 1, 2, 400, 601), opening_with(7, 1, 2, delay=11),
            opening_with(7, 1, 2, until=999), opening_with(7, 2, 1),
        ):
            with self.subTest(other=other):
                self.check_nothing(self.party()[0], ("opening", other))
                self.check_nothing(self.party(True, 0, 600)[0], ("opening", other))

    def test_what_is_bid_once_and_not_again(self):
        party, opening = self.party()
        self.hear(party, ("opening", opening))
        self.check_nothing(party, ("opening", opening))

    def test_another_act_among_the_bids(self):
        party, opening = self.party()
        party.now.bids.append(("open", opening_with(8)))
        self.assertEqual(len(self.hear(party, ("opening", opening))[1]), 1)
        self.assertEqual(party.now.bids, [("open", opening_with(8)), ("open", opening)])

    def test_the_purse(self):
        for purse, many in ((END + 400 + FEE - 1, 0), (END + 400 + FEE, 1)):
            with self.subTest(purse=purse):
                party, opening = self.party(purse=purse)
                if many:
                    self.assertEqual(len(self.hear(party, ("opening", opening))[1]), 1)
                else:
                    self.check_nothing(party, ("opening", opening))
                    party.now.purse_known += 1
                    self.assertEqual(len(self.hear(party, ("opening", opening))[1]), 1)

    def test_pending_things_are_needs(self):
        for purse, many in ((END + 400 + 4 * FEE - 1, 0), (END + 400 + 4 * FEE, 1)):
            party, opening = self.party(purse=purse)
            party.now.pending = 3
            self.assertEqual(len(self.hear(party, ("opening", opening))[1]), many)

    def test_fee_and_tag(self):
        party, opening = self.party(fee=9)
        party.now.tag = 77
        party.now.pending = 2
        self.assertEqual(self.hear(party, ("opening", opening))[1], [(("open", opening), (1, 2), 1, 9, 77)])
        self.assertEqual((party.now.tag, party.now.pending), (78, 3))


class StepCase(HearingTest):
    def accepts(self, end, step, number=None, **more):
        """Tell whether the party accepts the step; if it does not, nothing changes."""
        party = party_with(end, **more.pop("settings", {}))
        for name, value in more.items():
            setattr(party.now, name, value)
        return self.accepts_at(party, end.opening[0], step, number)

    def accepts_at(self, party, channel, step, number=None):
        end = [each for each in party.now.ends if each.opening[0] == channel][0]
        number = end.last[1] + 1 if number is None else number
        before = member_fields(party.now)
        last = end.last
        words, things = self.hear(party, ("step", channel, number, step))
        self.assertEqual(things, [])
        if words == []:
            self.assertEqual(member_fields(party.now), before)
            return False
        self.assertEqual(words, [(2, ("answer", channel, number))])
        self.assertEqual(end.last[1], last[1] + 1)
        return True


class StepTest(StepCase):
    def test_a_step_that_it_accepts(self):
        for as_first, number, last in ((True, 1, (7, 2, 409, 591)), (False, 0, (7, 1, 391, 609))):
            party = party_with(end_with(as_first=as_first, number=number))
            before = member_fields(party.now)
            found = self.hear(party, ("step", 7, number + 1, (("transfer", 9),)))
            self.assertEqual(found, ([(2, ("answer", 7, number + 1))], []))
            expected = end_with(as_first=as_first, number=number)
            expected.last = (*last, (), False)
            self.check_changes(party, before, ends=[end_fields(expected)])

    def test_a_step_that_is_heard_twice(self):
        for step in ((("transfer", 9),), ()):
            party = party_with(end_with(number=1))
            word = ("step", 7, 2, step)
            answer = ([(2, ("answer", 7, 2))], [])
            self.assertEqual(self.hear(party, word), answer)
            before = member_fields(party.now)
            self.assertEqual(self.hear(party, word), answer)
            self.check_changes(party, before)

    def test_the_answer_is_given_whatever_the_step_is(self):
        party = party_with(end_with(number=2))
        before = member_fields(party.now)
        self.assertEqual(self.hear(party, ("step", 7, 2, (("transfer", 999999),))), ([(2, ("answer", 7, 2))], []))
        self.check_changes(party, before)

    def test_the_number_of_the_last_state_of_the_peer(self):
        for as_first, number, answers in ((True, 2, True), (True, 3, False), (False, 2, False), (False, 3, True)):
            with self.subTest(as_first=as_first, number=number):
                party = party_with(end_with(as_first=as_first, number=number))
                if answers:
                    self.assertEqual(
                        self.hear(party, ("step", 7, number, ())), ([(2, ("answer", 7, number))], [])
                    )
                else:
                    self.check_nothing(party, ("step", 7, number, ()))

    def test_the_number_zero(self):
        party = party_with(end_with())
        self.assertEqual(self.hear(party, ("step", 7, 0, ())), ([(2, ("answer", 7, 0))], []))
        self.check_nothing(party_with(end_with(as_first=False)), ("step", 7, 0, ()))

    def test_an_answer_of_an_end_that_is_not_there_or_is_frozen(self):
        end = end_with(number=2, there=False)
        end.leave()
        self.assertEqual(self.hear(party_with(end), ("step", 7, 2, ())), ([(2, ("answer", 7, 2))], []))

    def test_other_numbers(self):
        for number in (0, 1, 3, 4, 5, 7, 4294967295):
            with self.subTest(number=number):
                self.check_nothing(party_with(end_with(number=5)), ("step", 7, number, ()))

    def test_an_end_that_is_not_there(self):
        self.assertFalse(self.accepts(end_with(number=1, there=False), ()))
        self.assertTrue(self.accepts(end_with(number=1), ()))

    def test_a_busy_end(self):
        end = end_with(number=1)
        end.leave()
        self.assertFalse(self.accepts(end, ()))
        end = end_with(number=1)
        end.step, end.next = (), end_with(number=2).last
        self.assertFalse(self.accepts(end, ()))

    def test_its_own_turn(self):
        self.assertFalse(self.accepts(end_with(number=2), ()))
        self.assertFalse(self.accepts(end_with(number=1, as_first=False), ()))

    def test_a_step_that_does_not_exist(self):
        self.assertTrue(self.accepts(end_with(number=1), (("transfer", 600),)))
        self.assertFalse(self.accepts(end_with(number=1), (("transfer", 601),)))

    def test_the_settings(self):
        lock = ("lock", KEY, 14, HEIGHT + 15)
        self.assertTrue(self.accepts(end_with(number=1), (lock,)))
        self.assertFalse(self.accepts(end_with(number=1), (lock,), settings={"least": 15}))
        self.assertFalse(self.accepts(end_with(number=1), (lock,), height=HEIGHT - 1))

    def test_the_cover(self):
        end = end_with(number=1, splices=[splice_with(second_out=9)])
        self.assertTrue(self.accepts(end, (("transfer", 591),)))
        self.assertFalse(self.accepts(end, (("transfer", 592),)))

    def test_the_purse_covers_the_needs_behind_it(self):
        lock = ("lock", KEY, 14, HEIGHT + 15)
        for many in (1, 3):
            for purse, accepts in ((END + many * FEE - 1, False), (END + many * FEE, True)):
                with self.subTest(many=many, purse=purse):
                    self.assertIs(self.accepts(end_with(number=1), (lock,) * many, purse_known=purse), accepts)

    def test_the_needs_of_other_ends_and_things(self):
        for purse, accepts in ((END * 2 + 2 * FEE + 400 - 1, False), (END * 2 + 2 * FEE + 400, True)):
            party = party_with(end_with(number=1), end_with(channel=8, there=False), purse=purse)
            party.now.pending = 2
            self.assertIs(self.accepts_at(party, 7, ()), accepts)

    def test_a_step_that_makes_the_needs_lesser(self):
        end = end_with(lock_with(deadline=99), lock_with(deadline=99), number=1)
        back = (("back", 0),)
        for purse, accepts in ((END + FEE - 1, False), (END + FEE, True)):
            with self.subTest(purse=purse):
                self.assertIs(self.accepts(end, back, purse_known=purse), accepts)

    def test_the_secrets_of_paid_moves_are_learned(self):
        end = end_with(lock_with(from_first=True), lock_with(OTHER_KEY, from_first=True), number=1)
        party = party_with(end)
        party.now.secrets.extend([9, OTHER])
        self.assertTrue(self.accepts_at(party, 7, (("paid", 0, SECRET), ("paid", 0, OTHER))))
        self.assertEqual(party.now.secrets, [9, OTHER, SECRET])

    def test_the_secrets_of_a_step_that_is_not_accepted_are_not_learned(self):
        end = end_with(lock_with(from_first=True), number=1)
        party = party_with(end, purse=END - 1)
        self.assertFalse(self.accepts_at(party, 7, (("paid", 0, SECRET),)))
        self.assertEqual(party.now.secrets, [])

    def test_a_secret_that_is_no_key(self):
        key = 77
        end = end_with(lock_with(key, from_first=True), number=1)
        party = party_with(end)
        self.assertTrue(self.accepts_at(party, 7, (("paid", 0, secret_with_key(key)),)))
        self.assertEqual(party.now.secrets, [secret_with_key(key)])

    def test_a_paid_move_needs_the_reveal_lead(self):
        for deadline, accepts in ((116, True), (115, False)):
            end = end_with(lock_with(deadline=deadline, from_first=True), number=1)
            self.assertIs(self.accepts(end, (("paid", 0, SECRET),)), accepts)


class InTimeTest(StepCase):
    """The lock at place 0 of channel 7 was given on; it came in in channel 8. The margin is 11."""

    out = lock_with(amount=40, deadline=120, from_first=True)

    def check(self, expected, deadline_in, step=(("paid", 0, SECRET),), given=None, locks=None, receipts=()):
        lock_in = lock_with(deadline=deadline_in)
        given = [(8, 7, lock_in, self.out)] if given is None else given
        party = party_with(
            end_with(*(locks or (self.out,)), number=1), end_with(lock_in, channel=8), receipts=receipts
        )
        party.now.given.extend(given)
        self.assertIs(self.accepts_at(party, 7, step), expected)

    def test_the_deadline_of_the_lock_that_came_in(self):
        for deadline, expected in ((110, False), (111, True), (112, True), (99, False)):
            with self.subTest(deadline=deadline):
                self.check(expected, deadline)

    def test_the_margin(self):
        for margin, expected in ((20, True), (21, False)):
            party = party_with(end_with(self.out, number=1), margin=margin)
            party.now.given.append((8, 7, lock_with(), self.out))
            self.assertIs(self.accepts_at(party, 7, (("paid", 0, SECRET),)), expected)

    def test_the_lock_that_came_in_was_opened(self):
        self.check(True, 105, receipts={KEY: 99})
        self.check(True, 99, receipts={KEY: 99})
        self.check(False, 98, receipts={KEY: 99})

    def test_each_payment_with_the_lock(self):
        late, soon = lock_with(deadline=110), lock_with(deadline=111)
        for given, expected in (((soon, soon), True), ((late, soon), False), ((soon, late), False)):
            with self.subTest(given=given):
                self.check(expected, 200, given=[(8, 7, each, self.out) for each in given])

    def test_other_payments_do_not_matter(self):
        late = lock_with(deadline=110)
        for given in (
            [], [(8, 9, late, self.out)], [(7, 8, late, self.out)],
            [(8, 7, late, lock_with(amount=41, from_first=True))],
            [(8, 7, self.out, late)],
        ):
            with self.subTest(given=given):
                self.check(True, 110, given=given)

    def test_other_moves_are_always_in_time(self):
        self.check(True, 99, (("dropped", 0),))
        self.check(True, 99, (("transfer", 5),))
        self.check(True, 99, ())

    def test_the_place_in_the_state_that_earlier_moves_leave(self):
        first = lock_with(OTHER_KEY, 30, from_first=True)
        self.check(False, 110, (("paid", 0, OTHER), ("paid", 0, SECRET)), locks=(first, self.out))
        self.check(True, 111, (("paid", 0, OTHER), ("paid", 0, SECRET)), locks=(first, self.out))
        self.check(True, 110, (("paid", 0, OTHER),), locks=(first, self.out))
        self.check(False, 110, (("dropped", 0), ("paid", 0, SECRET)), locks=(first, self.out))
        # Behind the first move, place 0 is not the one that was given on any more.
        self.check(True, 110, (("dropped", 0), ("paid", 0, OTHER)), locks=(self.out, first))

    def test_a_paid_move_behind_others(self):
        self.check(False, 110, (("transfer", 5), ("lock", 3, 14, 115), ("paid", 0, SECRET)))
        self.check(True, 111, (("transfer", 5), ("lock", 3, 14, 115), ("paid", 0, SECRET)))


class AnswerTest(HearingTest):
    def party(self):
        end = end_with(lock_with())
        end.propose((("paid", 0, SECRET),))
        return party_with(end), end

    def test_an_answer(self):
        party, end = self.party()
        before = member_fields(party.now)
        self.assertEqual(self.hear(party, ("answer", 7, 1)), NOTHING)
        end.hear_answer(1)
        self.check_changes(party, before, ends=[end_fields(end)])

    def test_another_number(self):
        for number in (0, 2):
            self.check_nothing(self.party()[0], ("answer", 7, number))

    def test_no_open_step_and_a_frozen_end(self):
        self.check_nothing(party_with(end_with()), ("answer", 7, 1))
        party, _ = self.party()
        party.now.ends[0].leave()
        self.check_nothing(party, ("answer", 7, 1))

    def test_only_the_end_of_the_channel_hears_it(self):
        ends = [end_with(), end_with(channel=8)]
        for end in ends:
            end.propose(())
        party = party_with(*ends)
        self.hear(party, ("answer", 8, 1))
        self.assertEqual([end.last[1] for end in party.now.ends], [0, 1])


class SpliceTest(HearingTest):
    def check(self, asks, as_first, splice, **more):
        party = party_with(end_with(as_first=as_first, splices=[splice]), **more)
        before = member_fields(party.now)
        found = self.hear(party, ("splice", splice))
        if asks:
            hands = (1, 2) if as_first else (2, 1)
            act = ("splice", splice)
            self.assertEqual(found, ([], [(act, hands, 1, FEE, 0)]))
            self.check_changes(party, before, tag=1, pending=1, bids=[act])
        else:
            self.assertEqual(found, ([(2, ("splice", splice))], []))
            self.check_changes(party, before)

    def test_who_asks(self):
        for amounts, first_asks, second_asks in (
            ({"first_in": 1}, True, False), ({"second_in": 1}, False, True),
            ({"first_in": 1, "second_in": 1}, True, True), ({"first_out": 1}, True, False),
            ({"second_out": 1}, False, True), ({"first_out": 1, "second_out": 1}, True, False), ({}, False, True),
            ({"first_in": 1, "first_out": 5, "second_out": 5}, True, False),
            ({"second_in": 1, "first_out": 5, "second_out": 5}, False, True),
            ({"first_in": 1, "second_out": 5}, True, False), ({"second_in": 1, "first_out": 5}, False, True),
        ):
            with self.subTest(amounts=amounts):
                self.check(first_asks, True, splice_with(**amounts))
                self.check(second_asks, False, splice_with(**amounts))

    def test_a_splice_that_is_not_open(self):
        for splices in ([], [splice_with(first_in=2)]):
            for as_first in (True, False):
                party = party_with(end_with(as_first=as_first, splices=splices))
                self.check_nothing(party, ("splice", splice_with(first_in=1)))

    def test_one_of_several_that_are_open(self):
        splices = [splice_with(first_in=1), splice_with(first_in=2), splice_with(first_in=1)]
        party = party_with(end_with(splices=splices))
        for amount, many in ((2, 1), (1, 1), (2, 0), (1, 0)):
            splice = splice_with(first_in=amount)
            words, things = self.hear(party, ("splice", splice))
            self.assertEqual((words, [thing[0] for thing in things]), ([], [("splice", splice)] * many))
        self.assertEqual(party.now.bids, [("splice", splices[1]), ("splice", splices[0])])

    def test_what_is_bid_once_and_not_again(self):
        splice = splice_with(first_in=1)
        party = party_with(end_with(splices=[splice]))
        self.hear(party, ("splice", splice))
        self.check_nothing(party, ("splice", splice))

    def test_the_purse(self):
        splice = splice_with(first_in=70)
        enough = END + 70 + FEE
        self.check(True, True, splice, purse=enough)
        party = party_with(end_with(splices=[splice]), purse=enough - 1)
        self.check_nothing(party, ("splice", splice))

    def test_an_end_that_is_not_there_or_is_frozen(self):
        splice = splice_with(first_out=1)
        end = end_with(splices=[splice], there=False)
        end.leave()
        self.assertEqual(len(self.hear(party_with(end), ("splice", splice))[1]), 1)


class TurnTest(HearingTest):
    def check(self, step, end, secrets=(), learned=None, **more):
        party = party_with(end, **more)
        party.now.secrets.extend(secrets)
        before = member_fields(party.now)
        if step is None:
            self.check_nothing(party, ("turn", 7))
            return
        found = self.hear(party, ("turn", 7))
        self.assertEqual(found, ([(2, ("step", 7, end.last[1] + 1, step))], []))
        end.propose(step)
        learned = list(secrets) if learned is None else learned
        self.check_changes(party, before, ends=[end_fields(end)], secrets=learned)

    def test_the_empty_step(self):
        self.check((), end_with(number=2))
        self.check((), end_with(number=3, as_first=False))
        self.check((), end_with(lock_with(), lock_with(from_first=True)))

    def test_a_tidying(self):
        self.check((("paid", 0, SECRET),), end_with(lock_with()), secrets=[OTHER, SECRET])
        self.check((("back", 1),), end_with(lock_with(), lock_with(deadline=99, from_first=True)))

    def test_the_secret_of_an_invoice_is_learned(self):
        party = party_with(end_with(lock_with()))
        party.now.invoices.append((SECRET, 50))
        found = self.hear(party, ("turn", 7))
        self.assertEqual(found, ([(2, ("step", 7, 1, (("paid", 0, SECRET),)))], []))
        self.assertEqual(party.now.secrets, [SECRET])

    def test_an_end_that_is_not_there(self):
        self.check(None, end_with(there=False))
        self.check(None, end_with(lock_with(), there=False), secrets=[SECRET])

    def test_an_end_that_cannot_propose(self):
        self.check(None, end_with(number=1))
        self.check(None, end_with(as_first=False))
        self.check(None, end_with(lock_with(), number=1), secrets=[SECRET])
        self.check(None, end_with(final=True))
        end = end_with()
        end.propose((("transfer", 9),))
        self.check(None, end)
        end = end_with(lock_with())
        end.leave()
        self.check(None, end, secrets=[SECRET])


if __name__ == "__main__":
    unittest.main()
