"""Point 21: bounds of waiting."""

import unittest

from turnpike.errors import OutOfBounds
from turnpike.money.bounds import wait_bound, wait_budget

MUCH = 10 ** 15


class BoundsTest(unittest.TestCase):
    def check(self, money, room, fee, budget):
        self.assertEqual(wait_budget(money, room, fee), budget)
        self.assertEqual(wait_bound(money, room, fee), budget + 1)

    def check_error(self, money, room, fee):
        for function in (wait_budget, wait_bound):
            with self.subTest(function=function, money=money, room=room, fee=fee):
                with self.assertRaises(OutOfBounds):
                    function(money, room, fee)

    def test_a_quotient_without_a_remainder(self):
        self.check(84, 3, 7, 4)
        self.check(21, 3, 7, 1)

    def test_a_quotient_with_a_remainder(self):
        self.check(83, 3, 7, 3)
        self.check(85, 3, 7, 4)
        self.check(20, 3, 7, 0)
        self.check(104, 3, 7, 4)

    def test_the_money(self):
        self.check(0, 3, 7, 0)
        self.check(MUCH, 3, 7, MUCH // 21)
        self.check_error(-1, 3, 7)
        self.check_error(MUCH + 1, 3, 7)

    def test_the_room(self):
        self.check(1000, 1, 3, 333)
        self.check(1000, 200, 2, 2)
        self.check_error(1000, 0, 3)
        self.check_error(1000, -1, 3)
        self.check_error(1000, 201, 3)

    def test_the_fee(self):
        self.check(1000, 3, 1, 333)
        self.check(1000, 3, MUCH, 0)
        self.check_error(1000, 3, 0)
        self.check_error(1000, 3, -1)
        self.check_error(1000, 3, MUCH + 1)

    def test_all_numbers_at_once(self):
        self.check(0, 1, 1, 0)
        self.check(MUCH, 1, 1, MUCH)
        self.check(MUCH, 200, 1, 5 * 10 ** 12)
        self.check(MUCH, 1, MUCH, 1)
        self.check(MUCH, 200, MUCH, 0)
        self.check_error(-1, 0, 0)


if __name__ == "__main__":
    unittest.main()
