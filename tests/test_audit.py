"""Point 33: audits."""

import unittest

from tests.helpers import thing
from turnpike.errors import InvalidPurses, OutOfBounds, TooMuchMoney
from turnpike.ledger.audit import audit

MUCH = 10 ** 15
PURSES = [(9, 50), (1, 100), (2, 200)]


def pay(tag, fee=5, payer=9, amount=1):
    """Return a thing that pays."""
    return thing(("pay", 1, amount), (), payer, fee, tag)


# With room for two, the block does the things with the greatest fees.
THINGS = [pay(0, 1), pay(1, 3), pay(2, 2), pay(0, 2, payer=2)]
RIGHT = [(9, 1), (9, 2)]
REST = [(2, 0), (9, 0)]


class AuditTest(unittest.TestCase):
    def check(self, expected, *entries, room=2):
        self.assertEqual(audit(PURSES, list(entries), room=room), expected)

    def test_no_entries(self):
        self.assertIsNone(audit(PURSES, [], room=1))
        self.assertIsNone(audit([], [], room=1))

    def test_entries_that_are_right(self):
        self.assertIsNone(audit(PURSES, [(THINGS, RIGHT), ([], REST), ([], [])], room=2))
        self.assertIsNone(audit(PURSES, [([], []), ([], []), (THINGS, RIGHT)], room=2))
        self.assertIsNone(audit(PURSES, [(THINGS, RIGHT + REST)], room=4))

    def test_things_that_are_offered_later(self):
        self.assertIsNone(audit(PURSES, [(THINGS[:2], [(9, 1), (9, 0)]), (THINGS[2:], [(9, 2), (2, 0)])], room=2))

    def test_a_pair_that_is_left_out(self):
        self.check(0, (THINGS, RIGHT[:1]))
        self.check(0, (THINGS, RIGHT[1:]))
        self.check(0, (THINGS, []))
        self.check(1, (THINGS, RIGHT), ([], REST[:1]))

    def test_a_pair_that_is_added(self):
        self.check(0, (THINGS, RIGHT + [(2, 0)]))
        self.check(0, ([], [(9, 0)]))
        self.check(2, (THINGS, RIGHT), ([], REST), ([], [(9, 0)]))

    def test_pairs_in_another_order(self):
        self.check(0, (THINGS, RIGHT[::-1]))
        self.check(1, (THINGS, RIGHT), ([], REST[::-1]))

    def test_another_tag_and_another_payer(self):
        self.check(0, (THINGS, [(9, 1), (9, 3)]))
        self.check(0, (THINGS, [(9, 1), (2, 2)]))
        self.check(0, (THINGS, [(1, 9), (2, 9)]))

    def test_the_first_of_two_wrong_ones(self):
        self.check(1, (THINGS, RIGHT), ([], []), ([], [(9, 9)]))
        self.check(0, ([], [(9, 9)]), (THINGS, []))

    def test_a_wrong_one_behind_right_ones(self):
        self.check(3, ([], []), (THINGS, RIGHT), ([], REST), ([], REST), ([], []))

    def test_the_room(self):
        self.check(0, (THINGS, RIGHT), room=1)
        self.check(0, (THINGS, RIGHT), room=3)
        self.check(None, (THINGS, RIGHT), room=2)

    def test_the_purses(self):
        entry = ([pay(0, amount=45), pay(1, amount=0)], [(9, 0)])
        self.assertIsNone(audit([(9, 50)], [entry], room=2))
        self.assertEqual(audit([(9, 55)], [entry], room=2), 0)
        self.assertEqual(audit([(9, 49)], [entry], room=2), 0)

    def test_the_arguments_are_not_changed(self):
        entries = [(list(THINGS), list(RIGHT)), ([], list(REST))]
        purses = list(PURSES)
        audit(purses, entries, room=2)
        self.assertEqual(entries, [(THINGS, RIGHT), ([], REST)])
        self.assertEqual(purses, PURSES)

    def test_each_audit_begins_with_a_new_ledger(self):
        for _ in range(2):
            self.assertIsNone(audit(PURSES, [(THINGS, RIGHT)], room=2))

    def test_the_errors_of_a_new_ledger(self):
        for entries in ([], [(THINGS, [])]):
            for error, purses, room in (
                (InvalidPurses, [(party, 1) for party in range(51)], 1), (InvalidPurses, [(1, 1), (1, 1)], 1),
                (InvalidPurses, [(1, -1)], 0), (InvalidPurses, [(1, MUCH + 1)], 1),
                (TooMuchMoney, [(1, MUCH), (2, 1)], 0), (OutOfBounds, PURSES, 0), (OutOfBounds, PURSES, 201),
            ):
                with self.subTest(error=error, room=room):
                    with self.assertRaises(error):
                        audit(purses, entries, room=room)


if __name__ == "__main__":
    unittest.main()
