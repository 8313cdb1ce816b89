"""Points 66 to 70: ways, limits, loads."""

import unittest

from turnpike.routes.ways import limit_of, loads, may_carry

FREE = (0, 0, 0)
WAY = (7, 1, 2, FREE, 100)


class LimitTest(unittest.TestCase):
    def test_the_channel_and_the_giver(self):
        limits = [(7, 1, 5, None), (7, 2, 6, 9), (8, 1, 0, 0)]
        self.assertEqual(limit_of(limits, 7, 1), (7, 1, 5, None))
        self.assertEqual(limit_of(limits, 7, 2), (7, 2, 6, 9))
        self.assertEqual(limit_of(limits, 8, 1), (8, 1, 0, 0))
        for channel, giver in ((8, 2), (9, 1), (1, 7)):
            with self.subTest(channel=channel, giver=giver):
                self.assertIsNone(limit_of(limits, channel, giver))
        self.assertIsNone(limit_of([], 7, 1))


class MayCarryTest(unittest.TestCase):
    def test_most(self):
        for amount, expected in ((0, True), (99, True), (100, True), (101, False)):
            with self.subTest(amount=amount):
                self.assertIs(may_carry(WAY, amount, []), expected)

    def test_below(self):
        for below, expected in ((None, True), (0, False), (49, False), (50, False), (51, True), (101, True)):
            with self.subTest(below=below):
                self.assertIs(may_carry(WAY, 50, [(7, 1, 0, below)]), expected)

    def test_below_does_not_lift_most(self):
        self.assertIs(may_carry(WAY, 101, [(7, 1, 0, 200)]), False)
        self.assertIs(may_carry(WAY, 101, [(7, 1, 101, None)]), False)

    def test_what_was_carried_does_not_matter(self):
        self.assertIs(may_carry(WAY, 50, [(7, 1, 80, 50)]), False)
        self.assertIs(may_carry(WAY, 50, [(7, 1, 0, 51)]), True)

    def test_limits_of_other_ways(self):
        self.assertIs(may_carry(WAY, 50, [(7, 2, 0, 0), (8, 1, 0, 0)]), True)
        self.assertIs(may_carry(WAY, 50, [(7, 2, 0, None), (7, 1, 0, 0)]), False)


class LoadsTest(unittest.TestCase):
    def test_no_way(self):
        self.assertEqual(loads((), 50), [])

    def test_one_way(self):
        self.assertEqual(loads(((7, 1, 2, (9, 500, 4), 1000),), 50), [50])

    def test_several_ways(self):
        route = (
            (7, 1, 2, (900, 900, 9), 1000), (8, 2, 3, (3, 10, 9), 1000), (9, 3, 4, (0, 0, 9), 1000),
            (10, 4, 5, (1, 1, 9), 1000),
        )
        # 50 + 1 + a part of 1, then nothing, then 52 + 3 + a part of 1.
        self.assertEqual(loads(route, 50), [56, 52, 52, 50])

    def test_most_does_not_matter(self):
        self.assertEqual(loads(((7, 1, 2, FREE, 0), (8, 2, 3, (10 ** 15, 0, 0), 0)), 5), [10 ** 15 + 5, 5])

    def test_a_list_that_is_new(self):
        route = ((7, 1, 2, FREE, 100),)
        loads(route, 5).append(1)
        self.assertEqual(loads(route, 5), [5])


if __name__ == "__main__":
    unittest.main()
