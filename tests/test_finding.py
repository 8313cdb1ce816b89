"""Points 68 to 72: the cheapest route."""

import random
import unittest

from turnpike.errors import OutOfBounds
from turnpike.money.tolls import legs, must_come_in
from turnpike.routes.finding import find_route
from turnpike.routes.ways import loads, may_carry

FREE = (0, 0, 0)
MUCH = 10 ** 15


def way(channel, giver, taker, base=0, per_mille=0, gap=0, most=1000):
    """Return a way."""
    return (channel, giver, taker, (base, per_mille, gap), most)


def chain(length):
    """Return so many ways, each of which begins where the one before it ends; the first giver is 0."""
    return [way(100 + place, place, place + 1) for place in range(length)]


def route_of(ways, request, limits=()):
    """Return the route that is found, or None."""
    found = find_route(list(ways), list(limits), request, 0)
    return None if found is None else found[0]


class BoundsTest(unittest.TestCase):
    def check(self, ways, limits, request):
        with self.assertRaises(OutOfBounds):
            find_route(ways, limits, request, 10)

    def test_the_number_of_ways(self):
        ways = [way(channel, 1, 2) for channel in range(61)]
        self.assertEqual(find_route(ways[:60], [], (1, 2, 5, 1), 10)[0], (ways[0],))
        self.check(ways, [], (1, 2, 5, 1))

    def test_the_limits(self):
        limits = [(channel, 1, 0, 0) for channel in range(61)]
        self.assertIsNone(find_route([way(0, 1, 2)], limits[:60], (1, 2, 5, 1), 10))
        self.check([way(0, 1, 2)], limits, (1, 2, 5, 1))

    def test_two_limits_of_one_channel_and_giver(self):
        for second in ((7, 1, 0, None), (7, 1, 3, 4)):
            self.check([], [(7, 1, 0, None), (8, 1, 0, None), second], (1, 2, 5, 1))
        self.assertIsNone(find_route([], [(7, 1, 0, None), (8, 1, 0, None), (7, 2, 0, None)], (1, 2, 5, 1), 10))

    def test_the_amount(self):
        ways = [way(7, 1, 2, most=MUCH)]
        for amount in (1, MUCH):
            with self.subTest(amount=amount):
                self.assertEqual(find_route(ways, [], (1, 2, amount, 1), 10)[1], amount)
        for amount in (-1, 0, MUCH + 1):
            with self.subTest(amount=amount):
                self.check(ways, [], (1, 2, amount, 1))

    def test_the_hops(self):
        for hops in (1, 12):
            with self.subTest(hops=hops):
                self.assertEqual(route_of([way(7, 1, 2)], (1, 2, 5, hops)), (way(7, 1, 2),))
        for hops in (-1, 0, 13):
            with self.subTest(hops=hops):
                self.check([way(7, 1, 2)], [], (1, 2, 5, hops))

    def test_the_bounds_are_asked_also_if_there_is_no_route(self):
        self.check([], [], (1, 1, 0, 1))
        self.check([], [], (1, 1, 5, 13))


class RouteTest(unittest.TestCase):
    def test_source_and_target_are_equal(self):
        self.assertIsNone(route_of([way(7, 1, 1), way(8, 1, 2), way(9, 2, 1)], (1, 1, 5, 5)))

    def test_no_route(self):
        self.assertIsNone(route_of([], (1, 2, 5, 12)))
        self.assertIsNone(route_of([way(7, 2, 1), way(8, 1, 3), way(9, 4, 2)], (1, 2, 5, 12)))

    def test_just_as_many_ways_as_hops_and_one_more(self):
        for length in (1, 2, 3, 11, 12):
            ways = chain(length)
            with self.subTest(length=length):
                for hops in range(length, 13):
                    self.assertEqual(route_of(ways, (0, length, 5, hops)), tuple(ways))
                if length > 1:
                    self.assertIsNone(route_of(ways, (0, length, 5, length - 1)))
        self.assertIsNone(route_of(chain(13), (0, 13, 5, 12)))

    def test_the_order_of_the_ways_of_a_chain_does_not_matter(self):
        ways = chain(5)
        self.assertEqual(route_of(ways[::-1], (0, 5, 5, 5)), tuple(ways))
        # A round looks only at what was known before it, in whatever order the ways stand.
        self.assertIsNone(route_of(ways[::-1], (0, 5, 5, 4)))
        self.assertIsNone(route_of(ways, (0, 5, 5, 4)))

    def test_what_a_way_may_carry(self):
        for most, expected in ((5, True), (4, False)):
            with self.subTest(most=most):
                self.assertEqual(route_of([way(7, 1, 2, most=most)], (1, 2, 5, 1)) is not None, expected)
        for below, expected in ((None, True), (6, True), (5, False), (0, False)):
            with self.subTest(below=below):
                self.assertEqual(route_of([way(7, 1, 2)], (1, 2, 5, 1), [(7, 1, 0, below)]) is not None, expected)
        self.assertIsNotNone(route_of([way(7, 1, 2)], (1, 2, 5, 1), [(7, 2, 0, 0)]))

    def test_an_earlier_way_carries_its_own_load(self):
        for most, expected in ((8, True), (7, False)):
            ways = [way(7, 1, 2, most=most), way(8, 2, 3, base=3, most=5)]
            with self.subTest(most=most):
                self.assertEqual(route_of(ways, (1, 3, 5, 2)) is not None, expected)
        self.assertIsNone(route_of([way(7, 1, 2), way(8, 2, 3, base=3)], (1, 3, 5, 2), [(7, 1, 0, 8)]))
        self.assertIsNotNone(route_of([way(7, 1, 2), way(8, 2, 3, base=3)], (1, 3, 5, 2), [(7, 1, 0, 9)]))

    def test_the_toll_of_the_first_way_is_not_asked_for(self):
        direct = way(7, 1, 3, base=900, per_mille=100000)
        ways = [way(8, 1, 2), way(9, 2, 3, base=1), direct]
        self.assertEqual(find_route(ways, [], (1, 3, 5, 2), 10), ((direct,), 5, [(5, 10)]))

    def test_the_cheapest_way_of_a_party(self):
        ways = [way(7, 1, 2), way(8, 2, 3, base=4), way(9, 2, 3, base=3), way(10, 2, 3, base=5)]
        self.assertEqual(route_of(ways, (1, 3, 5, 2)), (ways[0], ways[2]))

    def test_ties_of_a_party(self):
        ways = [way(7, 1, 2), way(8, 2, 3, base=4), way(9, 2, 3, base=3), way(10, 2, 3, base=3)]
        self.assertEqual(route_of(ways, (1, 3, 5, 2)), (ways[0], ways[2]))
        self.assertEqual(route_of(ways[::-1], (1, 3, 5, 2)), (ways[0], ways[3]))

    def test_ties_of_the_source(self):
        ways = [way(7, 1, 3, base=9), way(8, 1, 3), way(9, 1, 3)]
        self.assertEqual(route_of(ways, (1, 3, 5, 2)), (ways[0],))
        self.assertEqual(route_of(ways[1:], (1, 3, 5, 2)), (ways[1],))
        # A longer route that costs as much comes first if its first way does.
        longer = [way(5, 1, 2), way(6, 2, 3), way(7, 1, 3)]
        self.assertEqual(route_of(longer, (1, 3, 5, 2)), tuple(longer[:2]))
        self.assertEqual(route_of(longer[::-1], (1, 3, 5, 2)), (longer[2],))

    def test_a_party_that_is_known_and_for_which_another_way_is_found_later(self):
        first, second, third = way(8, 2, 5, base=10), way(9, 2, 3, base=2), way(7, 1, 2)
        for base, expected in (
            (7, (third, second, way(10, 3, 5, base=7))), (8, (third, first)), (9, (third, first)),
        ):
            ways = [first, second, way(10, 3, 5, base=base), third]
            with self.subTest(base=base):
                self.assertEqual(route_of(ways, (1, 5, 5, 3)), expected)
                self.assertEqual(route_of(ways[::-1], (1, 5, 5, 3)), expected)

    def test_a_rest_that_is_found_too_late_is_not_used(self):
        # Party 3 learns of its cheaper way in the second round, party 2 would know of it in the third one.
        ways = [way(7, 1, 2), way(8, 2, 3), way(9, 3, 5, base=50), way(10, 3, 4), way(11, 4, 5, base=1)]
        self.assertEqual(find_route(ways, [], (1, 5, 5, 3), 0)[:2], ((ways[0], ways[1], ways[2]), 55))
        self.assertEqual(find_route(ways, [], (1, 5, 5, 4), 0)[:2], ((ways[0], ways[1], ways[3], ways[4]), 6))

    def test_a_way_from_a_party_to_itself(self):
        ways = [way(7, 1, 1), way(8, 2, 2), way(9, 1, 2), way(10, 2, 3), way(11, 3, 3)]
        self.assertEqual(route_of(ways, (1, 3, 5, 12)), (ways[2], ways[3]))
        self.assertIsNone(route_of(ways[:2], (1, 2, 5, 12)))

    def test_the_source_is_not_passed_again(self):
        ways = [way(7, 1, 2), way(8, 2, 1), way(9, 1, 3, most=4)]
        self.assertIsNone(route_of(ways, (1, 3, 5, 12)))

    def test_several_ways_of_one_channel(self):
        ways = [way(7, 1, 2), way(7, 2, 3), way(7, 1, 3, most=4), way(7, 2, 1)]
        self.assertEqual(route_of(ways, (1, 3, 5, 2)), (ways[0], ways[1]))
        self.assertIsNone(route_of(ways, (1, 3, 5, 2), [(7, 2, 0, 0)]))

    def test_a_dear_way_that_may_carry_and_a_cheap_one_that_may_not(self):
        ways = [way(7, 1, 2), way(8, 2, 3, most=4), way(9, 2, 3, base=50)]
        self.assertEqual(route_of(ways, (1, 3, 5, 2)), (ways[0], ways[2]))
        self.assertIsNone(route_of([way(7, 1, 2, most=54), *ways[1:]], (1, 3, 5, 2)))


class LegsTest(unittest.TestCase):
    def test_the_legs(self):
        ways = [way(7, 1, 2, 900, 0, 90), way(8, 2, 3, 3, 10, 20), way(9, 3, 4, 0, 0, 4), way(10, 4, 5, 1, 1, 7)]
        expected = [(56, 131), (52, 111), (52, 107), (50, 100)]
        self.assertEqual(find_route(ways, [], (1, 5, 50, 4), 100), (tuple(ways), 56, expected))
        self.assertEqual(legs(50, 100, [each[3] for each in ways[1:]]), expected)

    def test_the_kinds(self):
        route, sent, found = find_route([way(7, 1, 2)], [], (1, 2, 50, 4), 0)
        self.assertEqual((type(route), type(sent), type(found), type(found[0])), (tuple, int, list, tuple))

    def test_asked_twice_the_same_and_nothing_is_changed(self):
        ways = [way(7, 1, 2), way(8, 2, 3, base=1)]
        limits = [(7, 1, 3, 90), (8, 2, 0, None)]
        first = find_route(ways, limits, (1, 3, 50, 4), 9)
        first[2].clear()
        self.assertEqual(find_route(ways, limits, (1, 3, 50, 4), 9), ((ways[0], ways[1]), 51, [(51, 9), (50, 9)]))
        self.assertEqual(ways, [way(7, 1, 2), way(8, 2, 3, base=1)])
        self.assertEqual(limits, [(7, 1, 3, 90), (8, 2, 0, None)])


def least_sent(ways, limits, request):
    """Return the least that is sent over any route that may carry its loads, found by trying all; or None."""
    source, target, amount, hops = request
    found = [None]

    def go(party, due, many):
        # From the target backwards; the ways of the source come first in a route, and ask for nothing.
        for each in ways:
            if each[2] == party and may_carry(each, due, limits):
                if each[1] == source:
                    found[0] = due if found[0] is None else min(found[0], due)
                elif many > 1:
                    go(each[1], must_come_in(each[3], due), many - 1)

    if source != target:
        go(target, amount, hops)
    return found[0]


class ManyRoutesTest(unittest.TestCase):
    def random_ways(self, chance):
        return [
            way(chance.randint(1, 6), chance.randint(1, 5), chance.randint(1, 5), chance.randint(0, 4),
                chance.choice([0, 0, 30, 200]), chance.randint(0, 9), chance.choice([40, 60, 80, 1000]))
            for _ in range(chance.randint(0, 14))
        ]

    def test_routes_are_routes(self):
        chance = random.Random(6)
        seen = 0
        for _ in range(1200):
            ways = self.random_ways(chance)
            limits = [(channel, giver, 0, chance.choice([None, 0, 50, 70])) for channel in (1, 2) for giver in (1, 2)]
            request = (chance.randint(1, 5), chance.randint(1, 5), chance.randint(1, 60), chance.randint(1, 4))
            found = find_route(ways, limits, request, 9)
            # A way that may carry an amount may carry each smaller one, so the rounds always find the least.
            self.assertEqual(None if found is None else found[1], least_sent(ways, limits, request))
            if found is not None:
                seen += len(found[0]) > 1
                self.check_route(ways, limits, request, found)
        self.assertGreater(seen, 50)

    def check_route(self, ways, limits, request, found):
        source, target, amount, hops = request
        route, sent, pairs = found
        self.assertLessEqual(len(route), hops)
        self.assertEqual((route[0][1], route[-1][2]), (source, target))
        for before, behind in zip(route, route[1:]):
            self.assertEqual(before[2], behind[1])
        carried = loads(route, amount)
        self.assertEqual((sent, [load for load, _ in pairs]), (carried[0], carried))
        for each, load in zip(route, carried):
            self.assertIn(each, ways)
            self.assertTrue(may_carry(each, load, limits))


if __name__ == "__main__":
    unittest.main()
