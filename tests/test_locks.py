"""Points 7, 10 and 11: receipts, opened locks, and to which end locks go."""

import unittest

from turnpike.money.locks import lock_shares, was_opened

FROM_FIRST = (70, 5, 100, True)
FROM_SECOND = (80, 9, 200, False)


class WasOpenedTest(unittest.TestCase):
    def test_no_receipts(self):
        self.assertIs(was_opened(FROM_FIRST, {}), False)

    def test_receipts_of_other_keys(self):
        self.assertIs(was_opened(FROM_FIRST, {80: 1, 69: 1, 71: 1}), False)

    def test_a_number_that_is_only_a_height_is_no_key(self):
        self.assertIs(was_opened(FROM_FIRST, {1: 70}), False)

    def test_a_receipt_below_the_deadline(self):
        self.assertIs(was_opened(FROM_FIRST, {70: 0}), True)
        self.assertIs(was_opened(FROM_FIRST, {70: 99}), True)

    def test_a_receipt_at_the_deadline(self):
        self.assertIs(was_opened(FROM_FIRST, {70: 100}), True)

    def test_a_receipt_above_the_deadline(self):
        self.assertIs(was_opened(FROM_FIRST, {70: 101}), False)
        self.assertIs(was_opened(FROM_FIRST, {70: 10 ** 12}), False)

    def test_the_end_and_the_amount_do_not_matter(self):
        self.assertIs(was_opened((70, 0, 100, False), {70: 100}), True)
        self.assertIs(was_opened((70, 0, 100, False), {70: 101}), False)

    def test_the_least_and_the_greatest_numbers(self):
        self.assertIs(was_opened((0, 1, 0, True), {0: 0}), True)
        self.assertIs(was_opened((0, 1, 0, True), {0: 1}), False)
        self.assertIs(was_opened((4294967295, 1, 10 ** 12, True), {4294967295: 10 ** 12}), True)

    def test_the_receipts_are_not_changed(self):
        receipts = {80: 3, 70: 100}
        was_opened(FROM_FIRST, receipts)
        was_opened((71, 5, 100, True), receipts)
        self.assertEqual(list(receipts.items()), [(80, 3), (70, 100)])


class LockSharesTest(unittest.TestCase):
    def test_no_locks(self):
        self.assertEqual(lock_shares((), {70: 1}), (0, 0))
        self.assertEqual(lock_shares([], {}), (0, 0))

    def test_locks_that_are_not_opened_go_back(self):
        self.assertEqual(lock_shares((FROM_FIRST, FROM_SECOND), {}), (5, 9))

    def test_opened_locks_go_to_the_other_end(self):
        self.assertEqual(lock_shares((FROM_FIRST, FROM_SECOND), {70: 100, 80: 200}), (9, 5))

    def test_one_lock_opened_and_one_not(self):
        self.assertEqual(lock_shares((FROM_FIRST, FROM_SECOND), {70: 100}), (0, 14))
        self.assertEqual(lock_shares((FROM_FIRST, FROM_SECOND), {80: 200}), (14, 0))

    def test_a_receipt_that_came_too_late_opens_nothing(self):
        self.assertEqual(lock_shares((FROM_FIRST,), {70: 101}), (5, 0))
        self.assertEqual(lock_shares((FROM_SECOND,), {80: 201}), (0, 9))

    def test_a_receipt_can_open_several_locks(self):
        locks = ((70, 1, 100, True), (70, 20, 99, True), (70, 300, 100, False), (70, 4000, 101, True))
        self.assertEqual(lock_shares(locks, {70: 100}), (320, 4001))

    def test_a_list_and_a_tuple_of_locks(self):
        locks = [FROM_FIRST, FROM_SECOND, (90, 100, 50, True)]
        self.assertEqual(lock_shares(locks, {90: 50}), (5, 109))
        self.assertEqual(lock_shares(tuple(locks), {90: 50}), (5, 109))

    def test_a_pair_comes_back(self):
        self.assertIs(type(lock_shares([FROM_FIRST], {})), tuple)

    def test_great_amounts_and_thirty_locks(self):
        locks = [(70, 10 ** 15, 100, True)] * 30
        self.assertEqual(lock_shares(locks, {}), (30 * 10 ** 15, 0))
        self.assertEqual(lock_shares(locks, {70: 0}), (0, 30 * 10 ** 15))

    def test_the_arguments_are_not_changed(self):
        locks = [FROM_FIRST, FROM_SECOND]
        receipts = {80: 3, 70: 100}
        lock_shares(locks, receipts)
        self.assertEqual(locks, [FROM_FIRST, FROM_SECOND])
        self.assertEqual(list(receipts.items()), [(80, 3), (70, 100)])


if __name__ == "__main__":
    unittest.main()
