"""Points 9 and 12: the state of an opening, its money, and what a state is worth."""

import unittest

from turnpike.money.states import opening_state, total, worth

MUCH = 10 ** 15
LOCKS = ((70, 5, 100, True), (80, 9, 200, False), (90, 30, 300, True))


class OpeningStateTest(unittest.TestCase):
    def test_an_opening(self):
        state = opening_state((3, 11, 22, 40, 60, 7, 99))
        self.assertEqual(state, (3, 0, 40, 60, (), False))
        self.assertIs(state[5], False)
        self.assertIs(type(state), tuple)

    def test_an_opening_of_nothing(self):
        self.assertEqual(opening_state((0, 0, 0, 0, 0, 0, 0)), (0, 0, 0, 0, (), False))

    def test_great_amounts(self):
        opening = (4294967295, 1, 2, MUCH, MUCH - 1, 10 ** 12, 10 ** 12)
        self.assertEqual(opening_state(opening), (4294967295, 0, MUCH, MUCH - 1, (), False))


class TotalTest(unittest.TestCase):
    def test_no_locks(self):
        self.assertEqual(total((3, 8, 40, 60, (), False)), 100)
        self.assertEqual(total((3, 8, 40, 60, (), True)), 100)

    def test_locks_of_both_ends(self):
        self.assertEqual(total((3, 8, 40, 60, LOCKS, False)), 144)

    def test_negative_amounts_free(self):
        self.assertEqual(total((3, 8, -40, 60, LOCKS, False)), 64)
        self.assertEqual(total((3, 8, 40, -100, (), False)), -60)

    def test_great_amounts(self):
        locks = ((70, MUCH, 100, True), (80, MUCH - 1, 200, False))
        self.assertEqual(total((3, 8, 3 * MUCH, MUCH - 2, locks, False)), 6 * MUCH - 3)
        self.assertEqual(total((3, 8, -3 * MUCH, -3 * MUCH, (), False)), -6 * MUCH)


class WorthTest(unittest.TestCase):
    def test_no_locks(self):
        self.assertEqual(worth((3, 8, 40, 60, (), False), {}), (40, 60))
        self.assertEqual(worth((3, 8, 40, 60, (), True), {70: 1}), (40, 60))

    def test_locks_of_both_ends(self):
        state = (3, 8, 40, 60, LOCKS, False)
        self.assertEqual(worth(state, {}), (75, 69))
        self.assertEqual(worth(state, {70: 100}), (70, 74))
        self.assertEqual(worth(state, {80: 200}), (84, 60))
        self.assertEqual(worth(state, {70: 1, 80: 2, 90: 3}), (49, 95))

    def test_receipts_at_the_deadline_and_above(self):
        state = (3, 8, 0, 0, LOCKS, False)
        self.assertEqual(worth(state, {90: 300}), (5, 39))
        self.assertEqual(worth(state, {90: 301}), (35, 9))

    def test_negative_amounts_free(self):
        self.assertEqual(worth((3, 8, -40, -2, LOCKS, False), {80: 5}), (4, -2))

    def test_great_amounts(self):
        locks = ((70, MUCH, 100, True), (80, MUCH - 1, 200, False))
        state = (3, 8, 3 * MUCH, -3 * MUCH, locks, False)
        self.assertEqual(worth(state, {}), (4 * MUCH, -2 * MUCH - 1))
        self.assertEqual(worth(state, {70: 100, 80: 200}), (4 * MUCH - 1, -2 * MUCH))

    def test_a_pair_comes_back_and_the_receipts_stay(self):
        receipts = {80: 3, 70: 100}
        self.assertIs(type(worth((3, 8, 40, 60, LOCKS, False), receipts)), tuple)
        self.assertEqual(list(receipts.items()), [(80, 3), (70, 100)])


if __name__ == "__main__":
    unittest.main()
