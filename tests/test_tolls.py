"""Points 18 to 20: tolls and legs."""

import unittest

from turnpike.errors import OutOfBounds, TooMuchMoney
from turnpike.money.tolls import legs, may_give, must_come_in

MUCH = 10 ** 15


class MustComeInTest(unittest.TestCase):
    def test_a_product_that_1000_divides(self):
        self.assertEqual(must_come_in((3, 50, 9), 1000), 1053)
        self.assertEqual(must_come_in((3, 500, 9), 2), 6)
        self.assertEqual(must_come_in((0, 1000, 0), 7), 14)

    def test_a_product_that_is_rounded_up(self):
        self.assertEqual(must_come_in((3, 50, 9), 1001), 1055)
        self.assertEqual(must_come_in((3, 50, 9), 1019), 1073)
        self.assertEqual(must_come_in((0, 1, 0), 1), 2)
        self.assertEqual(must_come_in((0, 1, 0), 999), 1000)
        self.assertEqual(must_come_in((0, 1, 0), 1000), 1001)
        self.assertEqual(must_come_in((0, 1, 0), 1001), 1003)

    def test_no_part_in_a_thousand(self):
        self.assertEqual(must_come_in((0, 0, 0), 77), 77)
        self.assertEqual(must_come_in((5, 0, 900), 77), 82)

    def test_an_amount_of_zero(self):
        self.assertEqual(must_come_in((5, 100000, 1), 0), 5)
        self.assertEqual(must_come_in((0, 0, 0), 0), 0)

    def test_the_base_is_not_in_the_product(self):
        self.assertEqual(must_come_in((1000, 500, 0), 10), 1015)

    def test_great_numbers(self):
        self.assertEqual(must_come_in((MUCH, 100000, 10 ** 12), MUCH), 102 * MUCH)
        self.assertEqual(must_come_in((0, 99999, 0), MUCH - 1), MUCH - 1 + 99999 * 10 ** 12 - 99)


class MayGiveTest(unittest.TestCase):
    def give(self, height=50, key=7, came=1053, came_deadline=69, out_key=7, out=1000, out_deadline=60,
             from_first=(True, False), toll=(3, 50, 9)):
        inner = (key, came, came_deadline, from_first[0])
        outer = (out_key, out, out_deadline, from_first[1])
        return may_give(toll, height, inner, outer)

    def test_all_is_kept(self):
        self.assertIs(self.give(), True)

    def test_the_keys(self):
        self.assertIs(self.give(out_key=8), False)
        self.assertIs(self.give(key=8), False)
        self.assertIs(self.give(key=8, out_key=8), True)
        self.assertIs(self.give(key=0, out_key=0), True)

    def test_the_amount_that_goes_out(self):
        self.assertIs(self.give(out=1, came=1000), True)
        self.assertIs(self.give(out=0, came=1000), False)
        self.assertIs(self.give(out=-1, came=1000), False)
        self.assertIs(self.give(out=1, came=1, toll=(0, 0, 0), out_deadline=69), True)
        self.assertIs(self.give(out=0, came=1, toll=(0, 0, 0), out_deadline=69), False)

    def test_the_amount_that_came_in(self):
        self.assertIs(self.give(came=1052), False)
        self.assertIs(self.give(came=1054), True)
        self.assertIs(self.give(out=1001, came=1055), True)
        self.assertIs(self.give(out=1001, came=1054), False)

    def test_the_gap(self):
        self.assertIs(self.give(came_deadline=68), False)
        self.assertIs(self.give(came_deadline=70), True)
        self.assertIs(self.give(came_deadline=60, toll=(3, 50, 0)), True)
        self.assertIs(self.give(came_deadline=59, toll=(3, 50, 0)), False)

    def test_the_height(self):
        self.assertIs(self.give(height=59), True)
        self.assertIs(self.give(height=60), False)
        self.assertIs(self.give(height=61), False)
        self.assertIs(self.give(height=0, out_deadline=1), True)
        self.assertIs(self.give(height=0, out_deadline=0), False)

    def test_the_ends_do_not_matter(self):
        for ends in ((True, True), (True, False), (False, True), (False, False)):
            with self.subTest(ends=ends):
                self.assertIs(self.give(from_first=ends), True)
                self.assertIs(self.give(from_first=ends, came=1052), False)


class LegsTest(unittest.TestCase):
    def test_no_toll(self):
        self.assertEqual(legs(100, 50, []), [(100, 50)])
        self.assertEqual(legs(0, 0, []), [(0, 0)])

    def test_one_toll(self):
        self.assertEqual(legs(1000, 50, [(3, 50, 9)]), [(1053, 59), (1000, 50)])

    def test_several_tolls(self):
        found = legs(1000, 50, [(1, 0, 4), (0, 100, 0), (3, 50, 9)])
        self.assertEqual(found, [(1160, 63), (1159, 59), (1053, 59), (1000, 50)])

    def test_a_list_of_pairs_comes_back(self):
        found = legs(1000, 50, [(3, 50, 9)])
        self.assertIs(type(found), list)
        self.assertEqual([type(leg) for leg in found], [tuple, tuple])

    def test_twenty_tolls_and_one_more(self):
        found = legs(100, 50, [(1, 0, 2)] * 20)
        self.assertEqual(found, [(120 - k, 90 - 2 * k) for k in range(21)])
        with self.assertRaises(OutOfBounds):
            legs(100, 50, [(1, 0, 2)] * 21)
        with self.assertRaises(OutOfBounds):
            legs(0, 0, [(0, 0, 0)] * 30)

    def test_a_leg_of_the_greatest_amount(self):
        self.assertEqual(legs(MUCH - 5, 50, [(5, 0, 1)]), [(MUCH, 51), (MUCH - 5, 50)])
        with self.assertRaises(TooMuchMoney):
            legs(MUCH - 5, 50, [(6, 0, 1)])
        with self.assertRaises(TooMuchMoney):
            legs(MUCH - 5, 50, [(0, 0, 1), (6, 0, 1)])
        with self.assertRaises(TooMuchMoney):
            legs(MUCH - 5, 50, [(1, 0, 1), (5, 0, 1)])

    def test_an_amount_that_is_the_greatest(self):
        self.assertEqual(legs(MUCH, 50, []), [(MUCH, 50)])
        self.assertEqual(legs(MUCH, 50, [(0, 0, 3)]), [(MUCH, 53), (MUCH, 50)])
        with self.assertRaises(TooMuchMoney):
            legs(MUCH, 50, [(0, 1, 3)])

    def test_an_amount_beyond(self):
        with self.assertRaises(TooMuchMoney):
            legs(MUCH + 1, 50, [])
        with self.assertRaises(TooMuchMoney):
            legs(MUCH + 1, 50, [(0, 0, 0)] * 20)

    def test_deadlines_have_no_bound(self):
        self.assertEqual(legs(5, 10 ** 12, [(0, 0, 10 ** 12)]), [(5, 2 * 10 ** 12), (5, 10 ** 12)])

    def test_both_errors(self):
        with self.assertRaises(OutOfBounds):
            legs(MUCH + 1, 50, [(0, 0, 0)] * 21)
        with self.assertRaises(OutOfBounds):
            legs(MUCH, 50, [(MUCH, 100000, 0)] * 21)

    def test_the_list_of_tolls_is_not_changed(self):
        tolls = [(1, 0, 4), (0, 100, 0), (3, 50, 9)]
        legs(1000, 50, tolls)
        self.assertEqual(tolls, [(1, 0, 4), (0, 100, 0), (3, 50, 9)])

    def test_the_list_is_new(self):
        tolls = []
        first = legs(1000, 50, tolls)
        first.append("seen")
        self.assertEqual(legs(1000, 50, tolls), [(1000, 50)])
        self.assertEqual(tolls, [])


if __name__ == "__main__":
    unittest.main()
