"""Point 63: when a state and a reveal are due."""

import unittest

from tests.helpers import opening_with, view_fields, view_with
from turnpike.ledger.vault import Vault
from turnpike.money.keys import key_of
from turnpike.watch.due import secret_is_due, state_is_due

STATE = (7, 5, 400, 600, (), False)


def published(number, since=90, delay=10, channel=7):
    """Return a channel with a published state."""
    opening = opening_with(channel, delay=delay)
    return Vault(opening, published=(channel, number, 400, 600, (), False), since=since)


class StateTest(unittest.TestCase):
    def check(self, expected, *vaults, height=95, **more):
        view = view_with(*vaults, height=height, **more)
        before = view_fields(view)
        self.assertIs(state_is_due(view, STATE), expected)
        self.assertEqual(view_fields(view), before)

    def test_no_channel(self):
        self.check(False)
        self.check(False, published(1, channel=8))
        self.check(False, ended=[7])

    def test_nothing_published(self):
        self.check(False, Vault(opening_with()))

    def test_the_number_of_the_published_state(self):
        for number, expected in ((0, True), (4, True), (5, False), (6, False)):
            with self.subTest(number=number):
                self.check(expected, published(number))

    def test_the_height(self):
        for height, expected in ((90, True), (98, True), (99, True), (100, False), (101, False), (10 ** 6, False)):
            with self.subTest(height=height):
                self.check(expected, published(4), height=height)

    def test_the_delay_of_the_channel(self):
        self.check(False, published(4, delay=5))
        self.check(True, published(4, delay=6))
        self.check(False, published(4, since=95, delay=0))
        self.check(True, published(4, since=95, delay=1))

    def test_the_channel_of_the_state(self):
        self.check(True, published(9, channel=8), published(4))
        self.check(False, published(4, channel=8), published(9))

    def test_another_state_of_the_same_number_is_not_replaced(self):
        other = Vault(opening_with(), published=(7, 5, 1, 999, (), False), since=90)
        self.check(False, other)


class SecretTest(unittest.TestCase):
    def check(self, expected, secret=5, start=50, last=60, **more):
        view = view_with(**more)
        before = view_fields(view)
        self.assertIs(secret_is_due(view, secret, start, last), expected)
        self.assertEqual(view_fields(view), before)

    def test_the_height(self):
        for height, expected in ((0, False), (49, False), (50, True), (55, True), (59, True), (60, False), (61, False)):
            with self.subTest(height=height):
                self.check(expected, height=height)

    def test_no_time_at_all(self):
        self.check(False, height=50, last=50)
        self.check(False, height=50, start=51, last=49)
        self.check(True, height=0, start=0, last=1)

    def test_the_receipts(self):
        for height in (0, 50, 55, 99):
            with self.subTest(height=height):
                self.check(False, height=55, receipts={key_of(5): height})
        self.check(True, height=55, receipts={key_of(6): 55, 5: 55})

    def test_the_least_and_the_greatest_secret(self):
        for secret in (0, 4294967295):
            with self.subTest(secret=secret):
                self.check(True, secret, height=55)
                self.check(False, secret, height=55, receipts={key_of(secret): 3})


if __name__ == "__main__":
    unittest.main()
