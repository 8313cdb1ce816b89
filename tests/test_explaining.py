"""Point 32: outlooks of channels, and what a party holds."""

import unittest

from tests.helpers import ledger_fields
from turnpike.ledger.explaining import holds, outlook
from turnpike.ledger.ledger import Ledger
from turnpike.ledger.vault import Vault
from turnpike.money.keys import key_of

HEIGHT = 500
KEY = key_of(5)
OTHER_KEY = key_of(6)


def plain(first, second, *locks, channel=7):
    """Return a state of the channel with this free of the ends and these locks."""
    return (channel, 5, first, second, tuple(locks), False)


def ledger_with(state=None, channel=7, ends=(1, 2), receipts=(), **more):
    """Return a ledger with a channel in which this state is published."""
    ledger = Ledger([(1, 100), (2, 200)], room=1)
    ledger.book.height = HEIGHT
    ledger.book.receipts.update(receipts)
    add_channel(ledger, state, channel, ends, **more)
    return ledger


def add_channel(ledger, state, channel, ends, **more):
    since = None if state is None else 3
    ledger.book.vaults[channel] = Vault((channel, *ends, 40, 60, 10, 9), published=state, since=since, **more)


class OutlookTest(unittest.TestCase):
    def check(self, expected, ledger):
        before = ledger_fields(ledger)
        found = outlook(ledger, 7)
        self.assertEqual(found, expected)
        self.assertIs(type(found), tuple)
        self.assertIs(type(found[0]), list)
        self.assertEqual(ledger_fields(ledger), before)

    def test_no_channel(self):
        ledger = ledger_with(plain(30, 70))
        self.assertIsNone(outlook(ledger, 8))
        ledger.book.ended.append(8)
        self.assertIsNone(outlook(ledger, 8))

    def test_nothing_published(self):
        self.assertIsNone(outlook(ledger_with(), 7))

    def test_no_locks(self):
        self.check(([], 30, 70), ledger_with(plain(30, 70)))
        self.check(([], 0, 100), ledger_with(plain(0, 100)))

    def test_a_lock_that_waits(self):
        for deadline in (HEIGHT, HEIGHT + 1, 10 ** 12):
            with self.subTest(deadline=deadline):
                self.check((["waits"], 45, 55), ledger_with(plain(30, 55, (KEY, 15, deadline, True))))
                self.check((["waits"], 30, 70), ledger_with(plain(30, 55, (KEY, 15, deadline, False))))

    def test_a_lock_that_goes_back(self):
        for deadline in (HEIGHT - 1, 0):
            with self.subTest(deadline=deadline):
                self.check((["back"], 45, 55), ledger_with(plain(30, 55, (KEY, 15, deadline, True))))
                self.check((["back"], 30, 70), ledger_with(plain(30, 55, (KEY, 15, deadline, False))))

    def test_a_lock_that_is_opened(self):
        for height in (0, 3, 450):
            with self.subTest(height=height):
                receipts = {KEY: height}
                self.check(([height], 30, 70), ledger_with(plain(30, 55, (KEY, 15, 450, True)), receipts=receipts))
                self.check(([height], 45, 55), ledger_with(plain(30, 55, (KEY, 15, 450, False)), receipts=receipts))

    def test_a_receipt_that_is_late(self):
        receipts = {KEY: 451}
        self.check((["back"], 45, 55), ledger_with(plain(30, 55, (KEY, 15, 450, True)), receipts=receipts))

    def test_an_opened_lock_before_its_deadline(self):
        receipts = {KEY: HEIGHT}
        self.check(([HEIGHT], 30, 70), ledger_with(plain(30, 55, (KEY, 15, HEIGHT, True)), receipts=receipts))

    def test_several_locks(self):
        state = plain(
            10, 20, (KEY, 5, 900, True), (OTHER_KEY, 10, 900, True), (KEY, 25, 10, False), (OTHER_KEY, 30, 10, False)
        )
        self.check(([20, "waits", "back", "back"], 20, 80), ledger_with(state, receipts={KEY: 20}))

    def test_the_sums(self):
        self.check(([], 38, 74), ledger_with(plain(30, 70), sums=(9, 1, 6, 2)))

    def test_at_most_the_money(self):
        self.check(([], 91, 0), ledger_with(plain(98, 2), sums=(0, 0, 0, 9)))

    def test_the_list_is_new(self):
        ledger = ledger_with(plain(30, 55, (KEY, 15, 900, True)))
        outlook(ledger, 7)[0].append("seen")
        self.check((["waits"], 45, 55), ledger)


class HoldsTest(unittest.TestCase):
    def test_the_purse_alone(self):
        ledger = ledger_with()
        self.assertEqual([holds(ledger, party) for party in (1, 2, 3)], [100, 200, 0])

    def test_a_channel_with_a_published_state(self):
        ledger = ledger_with(plain(30, 70))
        self.assertEqual([holds(ledger, party) for party in (1, 2, 3)], [130, 270, 0])

    def test_a_party_without_a_purse(self):
        ledger = ledger_with(plain(30, 70), ends=(3, 4))
        before = ledger_fields(ledger)
        self.assertEqual([holds(ledger, party) for party in (1, 3, 4)], [100, 30, 70])
        self.assertEqual(ledger_fields(ledger), before)

    def test_locks_and_sums(self):
        state = plain(10, 60, (KEY, 5, 900, True), (OTHER_KEY, 25, 900, True))
        ledger = ledger_with(state, receipts={KEY: 20}, sums=(9, 1, 6, 2))
        self.assertEqual([holds(ledger, party) for party in (1, 2)], [100 + 10 + 25 + 8, 200 + 60 + 5 + 4])

    def test_several_channels(self):
        ledger = ledger_with(plain(30, 70))
        add_channel(ledger, plain(1, 99, channel=8), 8, (2, 1))
        add_channel(ledger, plain(20, 80, channel=9), 9, (3, 1))
        add_channel(ledger, None, 10, (1, 2))
        self.assertEqual([holds(ledger, party) for party in (1, 2, 3)], [100 + 30 + 99 + 80, 200 + 70 + 1, 20])

    def test_both_ends(self):
        ledger = ledger_with(plain(30, 70), ends=(1, 1))
        self.assertEqual([holds(ledger, party) for party in (1, 2)], [200, 200])

    def test_at_most_the_money(self):
        ledger = ledger_with(plain(98, 2), sums=(0, 0, 0, 9))
        self.assertEqual([holds(ledger, party) for party in (1, 2)], [191, 200])


if __name__ == "__main__":
    unittest.main()
