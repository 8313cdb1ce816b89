"""Point 74: attempts with balances."""

import random
import unittest

from turnpike.errors import OutOfBounds
from turnpike.routes.finding import find_route
from turnpike.routes.learning import learn
from turnpike.routes.trying import try_routes

MUCH = 10 ** 15


def way(channel, giver, taker, base=0, most=1000):
    """Return a way."""
    return (channel, giver, taker, (base, 0, 0), most)


class BoundsTest(unittest.TestCase):
    def check(self, ways, balances, limits, request, attempts=5):
        with self.assertRaises(OutOfBounds):
            try_routes(ways, balances, limits, request, attempts=attempts)

    def test_the_number_of_balances(self):
        ways = [way(7, 1, 2), way(8, 1, 2)]
        self.assertEqual(try_routes(ways, [9, 9], [], (1, 2, 5, 1), attempts=5), [((ways[0],), 5, ("passed",))])
        for balances in ([], [9], [9, 9, 9]):
            with self.subTest(balances=balances):
                self.check(ways, balances, [], (1, 2, 5, 1))
        self.assertEqual(try_routes([], [], [], (1, 2, 5, 1), attempts=5), [])
        self.check([], [9], [], (1, 2, 5, 1))

    def test_the_number_of_attempts(self):
        for attempts in (1, 40):
            with self.subTest(attempts=attempts):
                self.assertEqual(len(try_routes([way(7, 1, 2)], [5], [], (1, 2, 5, 1), attempts=attempts)), 1)
        for attempts in (-1, 0, 41):
            with self.subTest(attempts=attempts):
                self.check([way(7, 1, 2)], [5], [], (1, 2, 5, 1), attempts)
                self.check([], [], [], (1, 1, 5, 1), attempts)

    def test_what_find_route_asks_for(self):
        ways = [way(channel, 1, 2) for channel in range(61)]
        self.assertEqual(len(try_routes(ways[:60], [5] * 60, [], (1, 2, 5, 1), attempts=1)), 1)
        self.check(ways, [5] * 61, [], (1, 2, 5, 1))
        limits = [(channel, 1, 0, None) for channel in range(61)]
        self.assertEqual(len(try_routes(ways[:1], [5], limits[:60], (1, 2, 5, 1), attempts=1)), 1)
        self.check(ways[:1], [5], limits, (1, 2, 5, 1))
        self.check(ways[:1], [5], [(7, 1, 0, None), (7, 1, 0, 3)], (1, 2, 5, 1))
        for request in ((1, 2, 0, 1), (1, 2, MUCH + 1, 1), (1, 2, 5, 0), (1, 2, 5, 13)):
            with self.subTest(request=request):
                self.check(ways[:1], [5], [], request)


class TryTest(unittest.TestCase):
    def check(self, ways, balances, request, expected, limits=(), attempts=40):
        self.assertEqual(try_routes(list(ways), list(balances), list(limits), request, attempts=attempts), expected)

    def test_no_route(self):
        self.check([way(7, 2, 1)], [50], (1, 2, 5, 3), [])
        self.check([way(7, 1, 2)], [50], (1, 1, 5, 3), [])
        self.check([way(7, 1, 2)], [50], (1, 2, 5, 3), [], [(7, 1, 0, 5)])

    def test_a_balance_that_is_enough_and_one_that_is_not(self):
        ways = [way(7, 1, 2)]
        self.check(ways, [5], (1, 2, 5, 3), [((ways[0],), 5, ("passed",))])
        self.check(ways, [4], (1, 2, 5, 3), [((ways[0],), 5, ("lacks", 0))])

    def test_the_first_way_that_lacks(self):
        ways = [way(7, 1, 2), way(8, 2, 3, base=2), way(9, 3, 4, base=1)]
        for balances, place in (((8, 6, 5), None), ((7, 6, 5), 0), ((8, 5, 5), 1), ((8, 6, 4), 2), ((8, 5, 4), 1)):
            outcome = ("passed",) if place is None else ("lacks", place)
            with self.subTest(balances=balances):
                self.check(ways, balances, (1, 4, 5, 3), [(tuple(ways), 8, outcome)], attempts=1)

    def test_the_next_attempt_knows_what_lacked(self):
        ways = [way(7, 1, 2), way(8, 2, 3, base=1), way(9, 2, 3, base=2), way(10, 1, 3, most=4)]
        first, second = (ways[0], ways[1]), (ways[0], ways[2])
        self.check(ways, (9, 4, 5, 9), (1, 3, 5, 3), [(first, 6, ("lacks", 1)), (second, 7, ("passed",))])
        self.check(ways, (9, 4, 4, 9), (1, 3, 5, 3), [(first, 6, ("lacks", 1)), (second, 7, ("lacks", 1))])

    def test_just_the_given_number_of_attempts(self):
        ways = [way(channel, 1, 2, base=channel) for channel in range(10)]
        for attempts in (1, 2, 9, 10, 11):
            with self.subTest(attempts=attempts):
                expected = [((each,), 5, ("lacks", 0)) for each in ways[:attempts]]
                self.check(ways, [0] * 10, (1, 2, 5, 3), expected, attempts=attempts)

    def test_the_balance_of_the_first_way_with_the_channel_and_the_giver(self):
        ways = [way(7, 1, 2, most=4), way(7, 1, 2), way(7, 2, 3), way(7, 2, 3)]
        self.check(ways, (5, 0, 5, 0), (1, 3, 5, 3), [((ways[1], ways[2]), 5, ("passed",))])
        self.check(ways, (4, 9, 5, 9), (1, 3, 5, 3), [((ways[1], ways[2]), 5, ("lacks", 0))])
        self.check(ways, (9, 9, 4, 9), (1, 3, 5, 3), [((ways[1], ways[2]), 5, ("lacks", 1))])

    def test_limits_that_become_more_than_the_bound(self):
        limits = [(100 + number, 1, 0, None) for number in range(60)]
        ways = [way(channel, 1, 2) for channel in range(60)]
        found = try_routes(ways, [0] * 60, limits, (1, 2, 5, 1), attempts=40)
        self.assertEqual(found, [((each,), 5, ("lacks", 0)) for each in ways[:40]])

    def test_the_arguments_are_not_changed(self):
        ways, balances, limits = [way(7, 1, 2), way(8, 1, 2)], [0, 0], [(8, 1, 0, 90)]
        first = try_routes(ways, balances, limits, (1, 2, 5, 3), attempts=40)
        first.clear()
        self.assertEqual(len(try_routes(ways, balances, limits, (1, 2, 5, 3), attempts=40)), 2)
        self.assertEqual((ways, balances, limits), ([way(7, 1, 2), way(8, 1, 2)], [0, 0], [(8, 1, 0, 90)]))

    def test_finding_and_learning_give_the_same(self):
        chance = random.Random(4)
        longest = 0
        for _ in range(200):
            ways = [
                way(chance.randint(1, 9), chance.randint(1, 4), chance.randint(1, 4), chance.randint(0, 3), 60)
                for _ in range(12)
            ]
            balances = [chance.randint(0, 60) for _ in ways]
            request = (1, chance.randint(2, 4), chance.randint(1, 50), 4)
            attempts = chance.randint(1, 8)
            found = try_routes(ways, balances, [], request, attempts=attempts)
            self.assertEqual(found, self.tried_one_by_one(ways, balances, request, attempts))
            longest = max(longest, len(found))
        self.assertGreater(longest, 3)

    def tried_one_by_one(self, ways, balances, request, attempts):
        limits, tried = [], []
        while len(tried) < attempts:
            found = find_route(ways, limits, request, 0)
            if found is None:
                break
            route, sent, legs = found
            lacking = [
                place for place, (channel, giver, _, _, _) in enumerate(route)
                if balances[[each[:2] for each in ways].index((channel, giver))] < legs[place][0]
            ]
            outcome = ("lacks", lacking[0]) if lacking else ("passed",)
            tried.append((route, sent, outcome))
            if not lacking:
                break
            limits = learn(limits, route, request[2], outcome)
        return tried


if __name__ == "__main__":
    unittest.main()
