"""Points 34 to 41 and 44: one end of a channel."""

import unittest

from tests.helpers import (
    HEIGHT, KEY, end_fields, end_with, footing_fields, opening_with, settings_with, splice_with, vault_fields,
    view_fields, view_with,
)
from turnpike.channel.end import End, copy_end, wants
from turnpike.ledger.vault import Vault

MUCH = 10 ** 15

# At state 0 the first end is to propose, at state 1 the second one.
TURNS = ((True, 0, True), (True, 1, False), (False, 0, False), (False, 1, True))
PROPOSERS = ((True, 0), (False, 1))
HEARERS = ((True, 1), (False, 0))


def state(number, first=400, second=600, *locks, final=False):
    """Return a state of channel 7."""
    return (7, number, first, second, tuple(locks), final)


def proposing_end(as_first=True, step=(("transfer", 9),)):
    """Return an end that has proposed the step."""
    end = end_with(as_first=as_first, number=4 if as_first else 5)
    end.propose(step)
    return end


class NewEndTest(unittest.TestCase):
    def test_the_fields(self):
        for as_first in (True, False):
            with self.subTest(as_first=as_first):
                end = End(opening_with(), as_first=as_first)
                self.assertEqual(end_fields(end), (
                    opening_with(), as_first, state(0), None, None, False, False, ((0, 0, 0, 0), 0, []), False,
                ))

    def test_two_ends_share_nothing(self):
        End(opening_with(), as_first=True).footing.splices.append(splice_with())
        self.assertEqual(End(opening_with(), as_first=True).footing.splices, [])

    def test_the_peer(self):
        self.assertEqual(End(opening_with(7, 3, 4), as_first=True).peer(), 4)
        self.assertEqual(End(opening_with(7, 3, 4), as_first=False).peer(), 3)


class StandingTest(unittest.TestCase):
    def test_the_last_state_alone(self):
        self.assertEqual(end_with(number=3).standing(), [state(3)])

    def test_the_state_of_the_open_step_behind_it(self):
        self.assertEqual(proposing_end().standing(), [state(4), state(5, 391, 609)])

    def test_a_frozen_end(self):
        end = proposing_end()
        end.leave()
        self.assertEqual(end.standing(), [state(4), state(5, 391, 609)])

    def test_the_list_is_new(self):
        end = proposing_end()
        end.standing().append(state(9))
        end.standing().clear()
        self.assertEqual(end.standing(), [state(4), state(5, 391, 609)])

    def test_a_lock_that_is_sure(self):
        lock = (KEY, 5, 120, True)
        end = end_with(lock)
        self.assertIs(end.is_sure(lock), True)
        self.assertIs(end.is_sure((KEY, 5, 120, False)), False)
        self.assertIs(end.is_sure((KEY, 5, 121, True)), False)
        self.assertIs(end.is_sure((KEY, 6, 120, True)), False)
        self.assertIs(end_with().is_sure(lock), False)

    def test_a_lock_that_is_only_in_the_open_step(self):
        end = end_with()
        end.propose((("lock", KEY, 5, 120),))
        self.assertIs(end.is_sure((KEY, 5, 120, True)), False)
        end.hear_answer(1)
        self.assertIs(end.is_sure((KEY, 5, 120, True)), True)

    def test_a_lock_that_the_open_step_removes(self):
        for move in (("paid", 0, 5), ("dropped", 0)):
            lock = (KEY, 5, 120, False)
            end = end_with(lock, (KEY, 6, 120, False))
            end.propose((move,))
            with self.subTest(move=move):
                self.assertIs(end.is_sure(lock), False)
                self.assertIs(end.is_sure((KEY, 6, 120, False)), True)


class TurnTest(unittest.TestCase):
    def test_turns(self):
        for as_first, number, expected in TURNS:
            for more in (0, 2, 4294967292):
                with self.subTest(as_first=as_first, number=number + more):
                    self.assertIs(end_with(as_first=as_first, number=number + more).is_turn(), expected)

    def test_an_open_step_leaves_the_turn(self):
        self.assertIs(proposing_end().is_turn(), True)

    def test_busy(self):
        self.assertIs(end_with().is_busy(), False)
        self.assertIs(proposing_end().is_busy(), True)
        end = end_with()
        end.leave()
        self.assertIs(end.is_busy(), True)
        end = end_with()
        end.frozen = True
        self.assertIs(end.is_busy(), True)

    def test_the_empty_step_makes_busy(self):
        end = end_with()
        self.assertIs(end.propose(()), True)
        self.assertIs(end.is_busy(), True)
        self.assertEqual((end.step, end.next), ((), state(1)))


class ProposeTest(unittest.TestCase):
    def check(self, end, step, following):
        before = end_fields(end)
        self.assertIs(end.propose(step), following is not None)
        if following is None:
            self.assertEqual(end_fields(end), before)
        else:
            self.assertEqual((end.step, end.next), (step, following))
            self.assertEqual(end_fields(end)[:3] + end_fields(end)[5:], before[:3] + before[5:])

    def test_a_step(self):
        self.check(end_with(number=2), (("transfer", 9),), state(3, 391, 609))
        self.check(end_with(as_first=False, number=3), (("transfer", 9),), state(4, 409, 591))

    def test_turns(self):
        for as_first, number, turn in TURNS:
            with self.subTest(as_first=as_first, number=number):
                self.check(end_with(as_first=as_first, number=number), (), state(number + 1) if turn else None)

    def test_an_open_step(self):
        for as_first in (True, False):
            self.check(proposing_end(as_first), (), None)
            self.check(proposing_end(as_first), (("transfer", 9),), None)
            end = end_with(as_first=as_first, number=4 if as_first else 5)
            end.propose(())
            self.check(end, (("transfer", 9),), None)

    def test_a_frozen_end(self):
        for as_first, number in PROPOSERS:
            end = end_with(as_first=as_first, number=number)
            end.frozen = True
            self.check(end, (), None)
            end = end_with(as_first=as_first, number=number)
            end.leave()
            self.check(end, (), None)

    def test_a_step_that_does_not_exist(self):
        self.check(end_with(), (("transfer", 400),), state(1, 0, 1000))
        self.check(end_with(), (("transfer", 401),), None)
        self.check(end_with(final=True), (), None)
        self.check(end_with(), (("paid", 0, 5),), None)

    def test_the_cover(self):
        for as_first, number, sums in ((True, 0, (9, 0, 0, 0)), (False, 1, (0, 0, 9, 0))):
            own = 400 if as_first else 600
            with self.subTest(as_first=as_first):
                end = end_with(as_first=as_first, number=number)
                end.footing.sums = sums
                self.check(end, (("transfer", own + 10),), None)
                following = state(1, -9, 1009) if as_first else state(2, 1009, -9)
                self.check(end, (("transfer", own + 9),), following)

    def test_the_cover_with_open_splices(self):
        end = end_with(splices=[splice_with(first_out=9), splice_with(first_in=50)])
        self.check(end, (("transfer", 392),), None)
        self.check(end, (("transfer", 391),), state(1, 9, 991))

    def test_an_end_that_is_not_there(self):
        self.check(end_with(there=False), (), state(1))


class HearStepTest(unittest.TestCase):
    def hear(self, end, step, height=HEIGHT, receipts=None, **numbers):
        """Let the end hear the step and return whether it did; a refused step changes nothing."""
        before = end_fields(end)
        known = dict(receipts or {})
        heard = end.hear_step(settings_with(**numbers), height, known, step)
        self.assertEqual(known, receipts or {})
        self.assertIs(type(heard), bool)
        after = end_fields(end)
        self.assertEqual(after[:2] + after[3:], before[:2] + before[3:])
        if not heard:
            self.assertEqual(after, before)
        return heard

    def test_a_step(self):
        for as_first, number in HEARERS:
            with self.subTest(as_first=as_first):
                end = end_with(as_first=as_first, number=number)
                self.assertTrue(self.hear(end, (("transfer", 9),)))
                self.assertEqual(end.last, state(2, 409, 591) if as_first else state(1, 391, 609))

    def test_turns(self):
        for as_first, number, turn in TURNS:
            with self.subTest(as_first=as_first, number=number):
                self.assertIs(self.hear(end_with(as_first=as_first, number=number), ()), not turn)

    def test_a_busy_end(self):
        for as_first, number in HEARERS:
            end = end_with(as_first=as_first, number=number)
            end.leave()
            self.assertFalse(self.hear(end, ()))
            end = end_with(as_first=as_first, number=number)
            end.step, end.next = (), state(number + 1)
            self.assertFalse(self.hear(end, ()))
            self.assertFalse(self.hear(proposing_end(as_first), ()))

    def test_a_step_that_does_not_exist(self):
        self.assertTrue(self.hear(end_with(number=1), (("transfer", 600),)))
        self.assertFalse(self.hear(end_with(number=1), (("transfer", 601),)))
        self.assertFalse(self.hear(end_with(number=1, final=True), ()))

    def test_it_agrees(self):
        lock = ("lock", KEY, 14, HEIGHT + 15)
        end = end_with(number=1)
        self.assertTrue(self.hear(end, (lock,)))
        self.assertEqual(end.last, state(2, 400, 586, (KEY, 14, HEIGHT + 15, False)))
        self.assertFalse(self.hear(end_with(number=1), (lock,), least=15))
        self.assertFalse(self.hear(end_with(number=1), (lock,), farthest=14))
        self.assertFalse(self.hear(end_with(number=1), (lock,), height=HEIGHT - 1))

    def test_the_receipts(self):
        paid = (("paid", 0, 5),)
        lock = (KEY, 5, HEIGHT, True)
        self.assertFalse(self.hear(end_with(lock, number=1), paid))
        self.assertTrue(self.hear(end_with(lock, number=1), paid, receipts={KEY: HEIGHT}))
        self.assertFalse(self.hear(end_with(lock, number=1), paid, receipts={KEY: HEIGHT + 1}))
        self.assertTrue(self.hear(end_with(lock, number=1), paid, reveal_lead=0))

    def test_the_cover(self):
        for as_first, number, sums, amount in (
            (True, 1, (0, 0, 9, 0), 609), (False, 0, (9, 0, 0, 0), 409), (True, 1, (0, 0, 0, 9), 591),
        ):
            with self.subTest(as_first=as_first, sums=sums):
                end = end_with(as_first=as_first, number=number)
                end.footing.sums = sums
                self.assertFalse(self.hear(end, (("transfer", amount + 1),)))
                self.assertTrue(self.hear(end, (("transfer", amount),)))

    def test_the_cover_with_its_open_splices(self):
        end = end_with(number=1, splices=[splice_with(second_out=9), splice_with(second_in=50)])
        self.assertFalse(self.hear(end, (("transfer", 592),)))
        self.assertTrue(self.hear(end, (("transfer", 591),)))

    def test_one_step_behind_another(self):
        end = end_with(number=1)
        self.assertTrue(self.hear(end, ()))
        self.assertFalse(self.hear(end, ()))


class HearAnswerTest(unittest.TestCase):
    def check(self, end, number, expected):
        before = end_fields(end)
        self.assertIs(end.hear_answer(number), expected)
        if expected:
            changed = before[:2] + (before[4], None, None) + before[5:]
            self.assertEqual(end_fields(end), changed)
        else:
            self.assertEqual(end_fields(end), before)

    def test_an_answer(self):
        self.check(proposing_end(), 5, True)
        self.check(proposing_end(False), 6, True)
        self.check(proposing_end(step=()), 5, True)

    def test_another_number(self):
        for number in (0, 4, 6, 4294967295):
            self.check(proposing_end(), number, False)

    def test_no_open_step(self):
        self.check(end_with(number=4), 4, False)
        self.check(end_with(number=4), 5, False)

    def test_an_answer_that_is_heard_twice(self):
        end = proposing_end()
        self.check(end, 5, True)
        self.check(end, 5, False)

    def test_a_frozen_end(self):
        end = proposing_end()
        end.leave()
        self.check(end, 5, False)
        end = proposing_end()
        end.frozen = True
        self.check(end, 5, False)


class SeeTest(unittest.TestCase):
    def see(self, end, published=None, height=HEIGHT, **more):
        since = None if published is None else 3
        vault = Vault(end.opening, published=published, since=since, **more)
        before = vault_fields(vault)
        end.see(vault, height)
        self.assertEqual(vault_fields(vault), before)

    def test_nothing_published(self):
        for end in (end_with(number=4), proposing_end()):
            before = end_fields(end)
            self.see(end)
            self.assertEqual(end_fields(end), before)

    def test_a_published_state_freezes(self):
        end = end_with(number=4)
        self.see(end, state(4))
        self.assertEqual((end.frozen, end.leaving, end.last), (True, False, state(4)))

    def test_it_stays_frozen(self):
        end = end_with(number=4)
        self.see(end, state(4))
        self.see(end)
        self.assertIs(end.frozen, True)

    def test_a_state_of_a_lesser_number(self):
        for number in (0, 3, 4):
            with self.subTest(number=number):
                end = proposing_end()
                self.see(end, state(number))
                self.assertEqual(
                    (end.frozen, end.last, end.step, end.next),
                    (True, state(4), (("transfer", 9),), state(5, 391, 609)),
                )

    def test_a_state_of_the_number_and_of_a_greater_one(self):
        for as_first, number, last in ((True, 5, state(5, 391, 609)), (False, 6, state(6, 409, 591))):
            for more in (0, 1, 100):
                with self.subTest(as_first=as_first, more=more):
                    end = proposing_end(as_first)
                    self.see(end, state(number + more))
                    self.assertEqual((end.frozen, end.last, end.step, end.next), (True, last, None, None))

    def test_a_greater_number_without_an_open_step(self):
        end = end_with(number=4)
        self.see(end, state(9))
        self.assertEqual((end.last, end.step, end.next), (state(4), None, None))

    def test_the_empty_step(self):
        end = proposing_end(step=())
        self.see(end, state(5))
        self.assertEqual((end.last, end.step, end.next), (state(5), None, None))

    def test_the_footing_sees_it_too(self):
        end = end_with(splices=[splice_with(until=HEIGHT), splice_with(until=HEIGHT - 1)])
        self.see(end)
        self.assertEqual(footing_fields(end.footing), ((0, 0, 0, 0), 0, [splice_with(until=HEIGHT)]))
        self.see(end, sums=(9, 1, 6, 2), splices=3)
        self.assertEqual(footing_fields(end.footing), ((9, 1, 6, 2), 3, []))
        end = end_with(splices=[splice_with(until=HEIGHT - 1)])
        self.see(end, state(0))
        self.assertEqual(end.footing.splices, [])

    def test_that_it_is_there_is_set_by_the_party(self):
        end = end_with(there=False)
        self.see(end)
        self.see(end, state(0))
        self.assertIs(end.there, False)


class LeaveTest(unittest.TestCase):
    def test_leaving(self):
        for end in (end_with(number=4), proposing_end(), end_with(there=False)):
            before = end_fields(end)
            end.leave()
            self.assertEqual(end_fields(end), before[:5] + (True, True) + before[7:])
            end.leave()
            self.assertEqual(end_fields(end), before[:5] + (True, True) + before[7:])


class WantsTest(unittest.TestCase):
    """The delay is 10, so a state that was published at 100 can be replaced up to 110."""

    def check(self, expected, end, published=None, since=100, height=HEIGHT, receipts=()):
        vault = Vault(end.opening, published=published, since=None if published is None else since)
        view = view_with(vault, Vault(opening_with(8)), height=height, receipts=receipts)
        before = (end_fields(end), view_fields(view))
        self.assertEqual(wants(end, view), expected)
        self.assertEqual((end_fields(end), view_fields(view)), before)

    def test_nothing_published(self):
        self.check(None, end_with(number=4))
        self.check(None, proposing_end())
        end = end_with(number=4)
        end.frozen = True
        self.check(None, end)

    def test_nothing_published_and_leaving(self):
        for end in (end_with(number=4), end_with(), end_with((KEY, 5, 120, True), number=4), proposing_end()):
            end.leave()
            self.check(("publish", end.last), end)

    def test_an_older_state(self):
        for leaves in (True, False):
            end = end_with(number=4)
            if leaves:
                end.leave()
            for height, act in (
                (100, ("publish", state(4))), (110, ("publish", state(4))), (111, ("settle", 7)), (999, ("settle", 7)),
            ):
                with self.subTest(leaves=leaves, height=height):
                    self.check(act, end, state(3), height=height)

    def test_a_state_that_is_not_older(self):
        for leaves in (True, False):
            end = end_with(number=4)
            if leaves:
                end.leave()
            for number in (4, 5):
                for height, act in ((100, None), (110, None), (111, ("settle", 7))):
                    with self.subTest(leaves=leaves, number=number, height=height):
                        self.check(act, end, state(number), height=height)

    def test_the_state_of_an_open_step_is_not_published(self):
        end = proposing_end()
        self.check(None, end, state(4))
        self.check(("publish", state(4)), end, state(3))

    def test_a_lock_that_is_not_decided(self):
        for height, act in ((111, None), (120, None), (121, ("settle", 7))):
            with self.subTest(height=height):
                self.check(act, end_with(number=4), state(4, 395, 600, (KEY, 5, 120, True)), height=height)

    def test_a_lock_that_is_not_decided_in_an_older_state(self):
        lock = (KEY, 5, 120, True)
        for height, act in ((111, ("publish", state(4))), (120, ("publish", state(4))), (121, ("settle", 7))):
            with self.subTest(height=height):
                self.check(act, end_with(number=4), state(3, 395, 600, lock), height=height)

    def test_a_lock_that_is_opened(self):
        published = state(4, 395, 600, (KEY, 5, 120, True))
        for height, act in ((110, None), (111, ("settle", 7))):
            with self.subTest(height=height):
                self.check(act, end_with(number=4), published, height=height, receipts={KEY: 105})
        self.check(None, end_with(number=4), published, height=112, receipts={KEY: 121})

    def test_the_locks_of_the_last_state_do_not_matter(self):
        end = end_with((KEY, 5, 500, True), number=4)
        self.check(("settle", 7), end, state(3), height=111)

    def test_both_ends(self):
        for as_first in (True, False):
            end = end_with(as_first=as_first, number=4)
            self.check(("publish", state(4)), end, state(3))
            self.check(("settle", 7), end, state(3), height=111)


class MaySignTest(unittest.TestCase):
    def check(self, expected, end, splice, height=HEIGHT, far=13):
        before = end_fields(end)
        self.assertIs(end.may_sign(splice, height, far), expected)
        self.assertEqual(end_fields(end), before)

    def test_a_splice_that_may_be_signed(self):
        for as_first in (True, False):
            self.check(True, end_with(as_first=as_first), splice_with())
            self.check(True, end_with(as_first=as_first), splice_with(first_in=9, first_out=8, second_in=7))

    def test_the_channel(self):
        self.check(False, end_with(), splice_with(8))
        self.check(True, end_with(channel=8), splice_with(8))

    def test_the_index(self):
        for taken, index, expected in ((0, 1, False), (3, 3, True), (3, 2, False), (3, 4, False), (3, 0, False)):
            with self.subTest(taken=taken, index=index):
                end = end_with()
                end.footing.taken = taken
                self.check(expected, end, splice_with(index=index))

    def test_how_many_are_open(self):
        for many, expected in ((0, True), (3, True), (4, False), (5, False)):
            with self.subTest(many=many):
                self.check(expected, end_with(splices=[splice_with()] * many), splice_with())

    def test_since(self):
        for since, expected in ((0, True), (4, True), (5, False)):
            with self.subTest(since=since):
                self.check(expected, end_with(number=4), splice_with(since=since))
        self.check(False, proposing_end(), splice_with(since=5))
        self.check(True, proposing_end(), splice_with(since=4))

    def test_until(self):
        for until, expected in ((99, False), (100, True), (113, True), (114, False)):
            with self.subTest(until=until):
                self.check(expected, end_with(), splice_with(until=until))
        self.check(True, end_with(), splice_with(until=100), far=0)
        self.check(False, end_with(), splice_with(until=101), far=0)

    def test_a_final_state(self):
        self.check(False, end_with(final=True), splice_with())
        self.check(False, proposing_end(step=(("finish",),)), splice_with())
        self.check(True, proposing_end(step=()), splice_with())

    def test_each_end_is_borne(self):
        for as_first in (True, False):
            self.check(True, end_with(as_first=as_first), splice_with(first_out=400, second_out=600))
            self.check(False, end_with(as_first=as_first), splice_with(first_out=401))
            self.check(False, end_with(as_first=as_first), splice_with(second_out=601))
            self.check(True, end_with(as_first=as_first), splice_with(first_in=9, first_out=409))
            self.check(False, end_with(as_first=as_first), splice_with(first_in=9, first_out=410))

    def test_what_the_other_end_puts_in_does_not_help(self):
        self.check(False, end_with(), splice_with(first_out=401, second_in=900))
        self.check(False, end_with(), splice_with(second_out=601, first_in=900))

    def test_amounts_of_locks_do_not_help(self):
        end = end_with((KEY, 100, 120, True), (KEY, 200, 120, False))
        self.check(True, end, splice_with(first_out=300, second_out=400))
        self.check(False, end, splice_with(first_out=301))
        self.check(False, end, splice_with(second_out=401))

    def test_the_state_of_the_open_step_is_borne_too(self):
        end = proposing_end()
        self.check(True, end, splice_with(first_out=391))
        self.check(False, end, splice_with(first_out=392))
        self.check(True, end, splice_with(second_out=600))
        self.check(False, end, splice_with(second_out=601))

    def test_the_open_splices_are_in_the_cover(self):
        end = end_with(splices=[splice_with(first_out=300, second_in=50)])
        self.check(True, end, splice_with(first_out=400))
        self.check(True, end, splice_with(first_in=50, second_out=600))
        self.check(False, end, splice_with(first_out=401))
        end.footing.splices.append(splice_with(first_out=401))
        self.check(False, end, splice_with())

    def test_the_sums_are_in_the_cover(self):
        end = end_with()
        end.footing.sums = (9, 2, 5, 6)
        self.check(True, end, splice_with(first_out=407, second_out=599))
        self.check(False, end, splice_with(first_out=408))
        self.check(False, end, splice_with(second_out=600))

    def test_the_sums(self):
        for at, name in enumerate(("first_in", "first_out", "second_in", "second_out")):
            sums = [0, 0, 0, 0]
            sums[at] = MUCH - 5
            # What is taken out must have been put in.
            if name.endswith("out"):
                sums[at - 1] = MUCH
            with self.subTest(name=name):
                end = end_with()
                end.footing.sums = tuple(sums)
                self.check(True, end, splice_with(**{name: 5}))
                self.check(False, end, splice_with(**{name: 6}))

    def test_open_splices_are_not_in_the_sums(self):
        end = end_with(splices=[splice_with(first_in=MUCH)])
        self.check(True, end, splice_with(first_in=MUCH))
        self.check(False, end, splice_with(first_in=MUCH + 1))

    def test_a_frozen_end_and_one_that_is_not_there(self):
        end = end_with(there=False)
        end.leave()
        self.check(True, end, splice_with())


class SignTest(unittest.TestCase):
    def test_a_signed_splice_is_open_behind_the_others(self):
        end = end_with(splices=[splice_with(first_in=1)])
        before = end_fields(end)
        end.sign(splice_with(first_in=2))
        end.sign(splice_with(first_in=1))
        expected = [splice_with(first_in=1), splice_with(first_in=2), splice_with(first_in=1)]
        self.assertEqual(end.footing.splices, expected)
        self.assertEqual(end_fields(end)[:7], before[:7])

    def test_the_fourth_is_the_last(self):
        end = end_with()
        for _ in range(4):
            self.assertTrue(end.may_sign(splice_with(), HEIGHT, 13))
            end.sign(splice_with())
        self.assertFalse(end.may_sign(splice_with(), HEIGHT, 13))


class CopyEndTest(unittest.TestCase):
    def full(self):
        end = proposing_end()
        end.footing.sums = (9, 1, 6, 2)
        end.footing.taken = 3
        end.footing.splices.append(splice_with())
        end.leave()
        return end

    def test_a_copy_is_equal(self):
        for end in (self.full(), end_with(as_first=False, there=False), proposing_end(False)):
            copied = copy_end(end)
            self.assertIsInstance(copied, End)
            self.assertIsNot(copied, end)
            self.assertIsNot(copied.footing, end.footing)
            self.assertEqual(end_fields(copied), end_fields(end))

    def test_leaving_and_frozen_are_told_apart(self):
        end = end_with()
        end.frozen = True
        self.assertEqual(end_fields(copy_end(end)), end_fields(end))

    def test_a_copy_is_apart(self):
        for changes_copy in (True, False):
            end = self.full()
            copied = copy_end(end)
            changed, other = (copied, end) if changes_copy else (end, copied)
            changed.sign(splice_with(first_in=9))
            changed.see(Vault(opening_with(), published=state(9), since=3, splices=4), HEIGHT)
            changed.there = False
            with self.subTest(changes_copy=changes_copy):
                self.assertEqual(end_fields(other), end_fields(self.full()))


if __name__ == "__main__":
    unittest.main()
