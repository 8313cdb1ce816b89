"""Point 73: what attempts teach."""

import unittest

from turnpike.errors import OutOfBounds, TooMuchMoney
from turnpike.routes.learning import learn

MUCH = 10 ** 15
PASSED = ("passed",)


def way(channel, giver, base=0, per_mille=0, taker=0):
    """Return a way."""
    return (channel, giver, taker, (base, per_mille, 0), 0)


# The loads for 50 are 56, 53 and 50.
ROUTE = (way(7, 1, 900), way(8, 2, 3), way(9, 3, 2, 20))


class BoundsTest(unittest.TestCase):
    def check(self, error, limits, route, amount, outcomes=(PASSED, ("lacks", 0), ("refuses", 0), ("lacks", 60))):
        for outcome in outcomes:
            with self.subTest(outcome=outcome):
                with self.assertRaises(error):
                    learn(limits, route, amount, outcome)

    def test_the_number_of_limits(self):
        limits = [(channel, 1, 0, None) for channel in range(61)]
        self.assertEqual(learn(limits[:60], (), 5, PASSED), limits[:60])
        self.assertEqual(len(learn(limits[:60], (way(99, 9),), 5, ("lacks", 0))), 61)
        self.check(OutOfBounds, limits, (), 5)

    def test_the_number_of_ways(self):
        ways = tuple([way(channel, 1) for channel in range(61)])
        self.assertEqual(len(learn([], ways[:60], 5, ("lacks", 59))), 60)
        self.check(OutOfBounds, [], ways, 5)

    def test_two_limits_of_one_channel_and_giver(self):
        self.check(OutOfBounds, [(7, 1, 0, None), (7, 2, 0, None), (7, 1, 3, 4)], ROUTE, 5)
        self.assertEqual(len(learn([(7, 1, 0, None), (7, 2, 0, None)], (), 5, PASSED)), 2)

    def test_the_amount(self):
        for amount in (1, MUCH):
            with self.subTest(amount=amount):
                self.assertEqual(learn([], (way(7, 1),), amount, ("lacks", 0)), [(7, 1, 0, amount)])
        for amount in (-1, 0, MUCH + 1):
            self.check(OutOfBounds, [], (way(7, 1),), amount)
            self.check(OutOfBounds, [], (), amount)

    def test_the_load_of_a_way(self):
        just = (way(7, 1, MUCH), way(8, 2, MUCH - 50))
        self.assertEqual(learn([], just, 50, ("lacks", 0)), [(7, 1, 0, MUCH)])
        more = (way(7, 1), way(8, 2, MUCH - 49))
        self.check(TooMuchMoney, [], more, 50)
        self.check(TooMuchMoney, [], (way(6, 0), *more), 50)

    def test_out_of_bounds_comes_first(self):
        more = (way(7, 1), way(8, 2, MUCH))
        self.check(OutOfBounds, [(7, 1, 0, None), (7, 1, 0, None)], more, 50)
        self.check(OutOfBounds, [], more * 31, 50)
        self.check(OutOfBounds, [], more, MUCH + 1)


class PassedTest(unittest.TestCase):
    def test_limits_of_all_channels_of_the_route_go(self):
        limits = [(6, 1, 1, 2), (7, 1, 1, 2), (8, 1, 1, 2), (9, 3, 1, None), (10, 3, 4, 5), (7, 2, 0, 0)]
        self.assertEqual(learn(limits, ROUTE, 50, PASSED), [(6, 1, 1, 2), (10, 3, 4, 5)])

    def test_nothing_is_added(self):
        self.assertEqual(learn([], ROUTE, 50, PASSED), [])

    def test_an_empty_route(self):
        self.assertEqual(learn([(7, 1, 1, 2)], (), 50, PASSED), [(7, 1, 1, 2)])


class LacksTest(unittest.TestCase):
    def check(self, limits, place, expected, route=ROUTE):
        self.assertEqual(learn(limits, route, 50, ("lacks", place)), expected)

    def test_the_first_way(self):
        self.check([], 0, [(7, 1, 0, 56)])

    def test_a_way_in_the_middle(self):
        self.check([], 1, [(8, 2, 0, 53), (7, 1, 56, None)])

    def test_the_last_way(self):
        self.check([], 2, [(9, 3, 0, 50), (8, 2, 53, None), (7, 1, 56, None)])

    def test_no_way_at_the_place(self):
        limits = [(7, 1, 0, None), (8, 1, 1, 1)]
        for place in (3, 4, 60):
            with self.subTest(place=place):
                self.check(limits, place, limits)
        self.check(limits, 0, limits, ())

    def test_sure_only_grows(self):
        for sure, after in ((0, 56), (55, 56), (56, 56), (57, 57)):
            with self.subTest(sure=sure):
                self.check([(7, 1, sure, 40)], 1, [(8, 2, 0, 53), (7, 1, after, 40)])

    def test_below_only_falls(self):
        for below, after in ((None, 53), (54, 53), (53, 53), (52, 52), (0, 0)):
            with self.subTest(below=below):
                self.check([(8, 2, 60, below)], 1, [(8, 2, 60, after), (7, 1, 56, None)])

    def test_the_order(self):
        limits = [(1, 1, 0, None), (9, 3, 0, None), (2, 2, 0, None), (7, 1, 99, 100), (7, 2, 0, None), (8, 2, 99, 1)]
        self.check(limits, 1, [
            (8, 2, 99, 1), (7, 1, 99, 100), (1, 1, 0, None), (9, 3, 0, None), (2, 2, 0, None), (7, 2, 0, None),
        ])

    def test_ways_that_come_twice(self):
        # The loads are 53, 52, 51 and 50.
        twice = (way(7, 1), way(8, 2, 1), way(7, 1, 1), way(8, 2, 1))
        self.check([], 3, [(8, 2, 52, 50), (7, 1, 53, None)], twice)
        self.check([], 2, [(7, 1, 53, 51), (8, 2, 52, None)], twice)
        self.check([(8, 2, 0, 9), (7, 1, 0, 9)], 0, [(7, 1, 0, 9), (8, 2, 0, 9)], twice)

    def test_the_other_giver_of_a_channel(self):
        self.check([(7, 2, 1, 2)], 0, [(7, 1, 0, 56), (7, 2, 1, 2)])


class RefusesTest(unittest.TestCase):
    def check(self, limits, place, expected):
        self.assertEqual(learn(limits, ROUTE, 50, ("refuses", place)), expected)

    def test_each_place(self):
        self.check([], 0, [(7, 1, 0, 0)])
        self.check([], 1, [(8, 2, 0, 0), (7, 1, 56, None)])
        self.check([], 2, [(9, 3, 0, 0), (8, 2, 53, None), (7, 1, 56, None)])

    def test_no_way_at_the_place(self):
        self.check([(7, 1, 3, 4)], 3, [(7, 1, 3, 4)])

    def test_limits_that_are_there(self):
        for below in (None, 0, 20, 99):
            with self.subTest(below=below):
                self.check([(5, 5, 5, 5), (8, 2, 70, below)], 1, [(8, 2, 70, 0), (7, 1, 56, None), (5, 5, 5, 5)])


class ArgumentsTest(unittest.TestCase):
    def test_the_limits_are_not_changed_and_the_list_is_new(self):
        for outcome in (PASSED, ("lacks", 1), ("refuses", 1), ("lacks", 9)):
            limits = [(7, 1, 0, None), (5, 1, 0, None)]
            with self.subTest(outcome=outcome):
                after = learn(limits, ROUTE, 50, outcome)
                self.assertEqual(limits, [(7, 1, 0, None), (5, 1, 0, None)])
                after.clear()
                self.assertEqual(len(limits), 2)


if __name__ == "__main__":
    unittest.main()
