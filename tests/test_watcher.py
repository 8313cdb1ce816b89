"""Points 61 to 65: watchers."""

import unittest

from tests.helpers import opening_with, view_with
from turnpike.errors import OutOfBounds
from turnpike.ledger.ledger import Ledger
from turnpike.ledger.vault import Vault
from turnpike.money.keys import key_of
from turnpike.watch.watcher import Watcher, copy_watcher

HANDS = (1, 2)


def plain(number, channel=7, first=400):
    """Return a state of the channel."""
    return (channel, number, first, 1000 - first, (), False)


def published(number, channel=7, since=95, delay=10):
    """Return a channel with a published state."""
    return Vault(opening_with(channel, delay=delay), published=plain(number, channel), since=since)


def publishing(state, tag, hands=HANDS, payer=50, fee=3):
    """Return the thing by which a watcher publishes the state."""
    return (("publish", state), hands, payer, fee, tag)


def revealing(secret, tag, hands=(), payer=50, fee=3):
    """Return the thing by which a watcher shows the secret."""
    return (("reveal", secret), hands, payer, fee, tag)


def watcher_with(*duties, reveals=()):
    """Return a watcher that keeps these duties and reveals."""
    watcher = Watcher(50, fee=3)
    for state, hands in duties:
        watcher.keep(state, hands)
    for each in reveals:
        watcher.reveal(*each)
    return watcher


def watcher_fields(watcher):
    """Return all that a watcher tells."""
    return (watcher.party, watcher.fee, watcher.next_tag, watcher.duties, watcher.reveals)


class NewWatcherTest(unittest.TestCase):
    def test_it_keeps_nothing_at_first(self):
        self.assertEqual(watcher_fields(Watcher(50, fee=3)), (50, 3, 0, [], []))

    def test_the_least_and_the_greatest_fee(self):
        for fee in (1, 10 ** 15):
            with self.subTest(fee=fee):
                self.assertEqual(Watcher(50, fee=fee).fee, fee)
        for fee in (0, -1, 10 ** 15 + 1):
            with self.subTest(fee=fee):
                with self.assertRaises(OutOfBounds):
                    Watcher(50, fee=fee)


class KeepTest(unittest.TestCase):
    def test_the_number_of_the_state(self):
        for number, expected in ((4, False), (5, False), (6, True)):
            watcher = watcher_with((plain(5), HANDS))
            with self.subTest(number=number):
                self.assertIs(watcher.keep(plain(number, first=1), (2, 1)), expected)
                new = (plain(number, first=1), (2, 1))
                self.assertEqual(watcher.duties, [new if expected else (plain(5), HANDS)])

    def test_the_new_duty_stands_behind_the_others(self):
        watcher = watcher_with((plain(5), HANDS), (plain(9, 8), HANDS))
        self.assertIs(watcher.keep(plain(1, 9), (3,)), True)
        self.assertIs(watcher.keep(plain(6), ()), True)
        self.assertEqual(watcher.duties, [(plain(9, 8), HANDS), (plain(1, 9), (3,)), (plain(6), ())])

    def test_a_state_that_is_not_kept_leaves_the_order(self):
        watcher = watcher_with((plain(5), HANDS), (plain(9, 8), HANDS))
        self.assertIs(watcher.keep(plain(5), ()), False)
        self.assertEqual(watcher.duties, [(plain(5), HANDS), (plain(9, 8), HANDS)])

    def test_other_channels_do_not_matter(self):
        watcher = watcher_with((plain(9, 8), HANDS))
        self.assertIs(watcher.keep(plain(0), HANDS), True)
        self.assertEqual(len(watcher.duties), 2)


class RevealTest(unittest.TestCase):
    def test_reveals_stand_in_order(self):
        watcher = watcher_with(reveals=[(5, 10, 20), (6, 1, 2)])
        self.assertEqual(watcher.reveals, [(5, 10, 20), (6, 1, 2)])

    def test_the_new_reveal_of_a_secret_stands_behind_the_others(self):
        watcher = watcher_with(reveals=[(5, 10, 20), (6, 1, 2)])
        self.assertIsNone(watcher.reveal(5, 3, 4))
        self.assertEqual(watcher.reveals, [(6, 1, 2), (5, 3, 4)])

    def test_two_secrets_with_one_key_are_both_kept(self):
        watcher = watcher_with(reveals=[(5, 10, 20), (5 + 2 ** 32, 10, 20)])
        self.assertEqual(len(watcher.reveals), 2)


class DropTest(unittest.TestCase):
    def test_drop(self):
        watcher = watcher_with((plain(5), HANDS), (plain(9, 8), HANDS), reveals=[(7, 1, 2)])
        self.assertIs(watcher.drop(9), False)
        self.assertEqual(len(watcher.duties), 2)
        self.assertIs(watcher.drop(7), True)
        self.assertEqual(watcher.duties, [(plain(9, 8), HANDS)])
        self.assertEqual(watcher.reveals, [(7, 1, 2)])
        self.assertIs(watcher.drop(7), False)

    def test_a_dropped_channel_begins_anew(self):
        watcher = watcher_with((plain(5), HANDS))
        watcher.drop(7)
        self.assertIs(watcher.keep(plain(0), HANDS), True)
        self.assertEqual(watcher.duties, [(plain(0), HANDS)])


class CopyTest(unittest.TestCase):
    def test_the_lists_are_handed_out_anew(self):
        watcher = watcher_with((plain(5), HANDS), reveals=[(7, 1, 2)])
        before = watcher_fields(watcher)
        watcher.duties.clear()
        watcher.reveals.append((8, 1, 2))
        self.assertEqual(watcher_fields(watcher), before)

    def test_a_copy_is_equal_and_apart(self):
        watcher = watcher_with((plain(5), HANDS), (plain(5, 8), HANDS), reveals=[(7, 0, 999), (6, 0, 1)])
        watcher.tick(view_with(published(4)))
        before = watcher_fields(watcher)
        self.assertEqual(watcher.next_tag, 2)
        copied = copy_watcher(watcher)
        self.assertEqual(watcher_fields(copied), before)
        copied.keep(plain(6), HANDS)
        copied.reveal(9, 1, 2)
        copied.drop(8)
        copied.tick(view_with(published(4)))
        self.assertEqual(watcher_fields(watcher), before)
        after = watcher_fields(copied)
        watcher.drop(7)
        watcher.reveal(7, 1, 1)
        watcher.tick(view_with(published(4, 8)))
        self.assertEqual(watcher_fields(copied), after)


class TickTest(unittest.TestCase):
    def check(self, watcher, view, *things):
        kept = (watcher.duties, watcher.reveals)
        self.assertEqual(watcher.tick(view), list(things))
        self.assertEqual((watcher.duties, watcher.reveals), kept)

    def test_nothing_is_kept(self):
        self.check(Watcher(50, fee=3), view_with(published(4)))

    def test_the_order_of_what_is_offered(self):
        watcher = watcher_with(
            (plain(5, 9), ()), (plain(5), HANDS), (plain(5, 8), (3,)), reveals=[(6, 0, 999), (4, 0, 999)],
        )
        view = view_with(published(4), published(4, 8), published(4, 9))
        self.check(
            watcher, view, publishing(plain(5, 9), 0, ()), publishing(plain(5), 1), publishing(plain(5, 8), 2, (3,)),
            revealing(6, 3), revealing(4, 4),
        )

    def test_the_tags_go_on_over_tellings(self):
        watcher = watcher_with((plain(5), HANDS), reveals=[(6, 0, 999)])
        self.check(watcher, view_with(published(4)), publishing(plain(5), 0), revealing(6, 1))
        self.check(watcher, view_with(published(4), receipts={key_of(6): 99}), publishing(plain(5), 2))
        self.check(watcher, view_with(), revealing(6, 3))
        self.assertEqual(watcher.next_tag, 4)

    def test_what_is_not_due_takes_no_tag(self):
        watcher = watcher_with((plain(4), HANDS), (plain(5, 8), HANDS), reveals=[(6, 101, 999), (4, 0, 100)])
        self.check(watcher, view_with(published(4), published(4, 8)), publishing(plain(5, 8), 0))
        self.assertEqual(watcher.next_tag, 1)

    def test_a_state_is_due_before_the_end_of_the_delay(self):
        for height, due in ((104, True), (105, False)):
            watcher = watcher_with((plain(5), HANDS))
            with self.subTest(height=height):
                self.check(watcher, view_with(published(4), height=height), *[publishing(plain(5), 0)][:due])

    def test_a_reveal_is_due_from_start_on_and_before_last(self):
        for height, due in ((9, False), (10, True), (19, True), (20, False)):
            watcher = watcher_with(reveals=[(6, 10, 20)])
            with self.subTest(height=height):
                self.check(watcher, view_with(height=height), *[revealing(6, 0)][:due])

    def test_an_equal_state_that_waits(self):
        first = publishing(plain(5), 77, fee=1)
        self.check(watcher_with((plain(5), HANDS)), view_with(published(4), waiting=[first]))

    def test_what_waits_does_not_count(self):
        others = (
            publishing(plain(5), 77, hands=(2, 1)), publishing(plain(5), 77, hands=()),
            publishing(plain(5), 77, payer=51), publishing(plain(6), 77), publishing(plain(5, first=1), 77),
            (("settle", 7), HANDS, 50, 3, 77), (("open", opening_with()), HANDS, 50, 3, 77), revealing(5, 77, HANDS),
        )
        for other in others:
            with self.subTest(other=other):
                view = view_with(published(4), waiting=[other])
                self.check(watcher_with((plain(5), HANDS)), view, publishing(plain(5), 0))

    def test_a_secret_that_waits(self):
        watcher = watcher_with(reveals=[(6, 0, 999)])
        self.check(watcher, view_with(waiting=[revealing(6, 77, fee=1)]))
        self.check(watcher, view_with(waiting=[revealing(6 + 2 ** 32, 77)]))
        for tag, other in enumerate((revealing(6, 77, hands=(1,)), revealing(6, 77, payer=51), revealing(7, 77))):
            with self.subTest(other=other):
                self.check(watcher, view_with(waiting=[other]), revealing(6, tag))

    def test_two_secrets_with_one_key_are_offered_once(self):
        watcher = watcher_with(reveals=[(6 + 2 ** 32, 0, 999), (6, 0, 999), (7, 0, 999)])
        self.check(watcher, view_with(), revealing(6 + 2 ** 32, 0), revealing(7, 1))

    def test_what_was_offered_and_waits_no_more_is_offered_again(self):
        watcher = watcher_with((plain(5), HANDS), reveals=[(6, 0, 999)])
        things = watcher.tick(view_with(published(4)))
        self.check(watcher, view_with(published(4), waiting=things))
        self.check(watcher, view_with(published(4), waiting=things[:1]), revealing(6, 2))
        self.check(watcher, view_with(published(4)), publishing(plain(5), 3), revealing(6, 4))

    def test_the_view_is_not_changed(self):
        view = view_with(published(4))
        watcher_with((plain(5), HANDS)).tick(view)
        self.assertEqual(view.waiting, [])


class LedgerTest(unittest.TestCase):
    def test_a_watcher_saves_the_newest_state(self):
        ledger = Ledger([(1, 500), (2, 700), (50, 9)], room=1)
        watcher = watcher_with((plain(5), HANDS), reveals=[(6, 0, 999)])
        opening = opening_with(delay=3)
        ledger.offer((("open", opening), HANDS, 1, 3, 0))
        ledger.block()
        ledger.offer((("publish", plain(2, first=900)), HANDS, 2, 3, 0))
        ledger.block()
        for thing in watcher.tick(ledger.view()):
            ledger.offer(thing)
        self.assertEqual(ledger.block(), [publishing(plain(5), 0)])
        self.assertEqual(watcher.tick(ledger.view()), [])
        self.assertEqual(ledger.block(), [revealing(6, 1)])
        self.assertEqual(watcher.tick(ledger.view()), [])
        self.assertEqual(ledger.channel(7).published, plain(5))


if __name__ == "__main__":
    unittest.main()
