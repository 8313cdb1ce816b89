"""Point 17: steps of the other end that an honest end agrees to."""

import unittest

from tests.helpers import PLAIN_SETTINGS, settings_with
from turnpike.money.agreeing import agrees
from turnpike.money.keys import key_of

KEY = key_of(5)
OTHER_KEY = key_of(6)
HEIGHT = 100

# Behind state 0 the first end proposes, behind state 1 the second one.
PROPOSERS = ((0, True), (1, False))


def plain(number, *locks, first=40, second=60):
    """Return a state with this number and these locks that is not final."""
    return (3, number, first, second, tuple(locks), False)


def judge(state, *moves, receipts=None, height=HEIGHT, **numbers):
    """Return whether an end with these settings agrees to the moves."""
    return agrees(settings_with(**numbers), height, receipts or {}, state, moves)


class AgreesTest(unittest.TestCase):
    def check(self, expected, *args, **numbers):
        self.assertIs(judge(*args, **numbers), expected)

    def test_the_empty_step(self):
        for number, _ in PROPOSERS:
            self.check(True, plain(number))
            self.check(True, plain(number, (KEY, 5, 1, True), first=-1, second=-1))

    def test_lock_with_the_least_amount(self):
        for number, _ in PROPOSERS:
            for least in (1, 2, 14, 40):
                with self.subTest(number=number, least=least):
                    self.check(True, plain(number), ("lock", KEY, least, HEIGHT), least=least)
                    self.check(False, plain(number), ("lock", KEY, least - 1, HEIGHT), least=least)
                    self.check(True, plain(number), ("lock", KEY, least, HEIGHT), least=least - 1)

    def test_lock_with_a_least_amount_of_zero(self):
        self.check(True, plain(0), ("lock", KEY, 1, HEIGHT), least=0)
        self.check(False, plain(0), ("lock", KEY, 0, HEIGHT), least=0)

    def test_lock_with_the_farthest_deadline(self):
        for number, _ in PROPOSERS:
            for farthest in (0, 1, 15):
                with self.subTest(number=number, farthest=farthest):
                    self.check(True, plain(number), ("lock", KEY, 20, HEIGHT + farthest), farthest=farthest)
                    self.check(False, plain(number), ("lock", KEY, 20, HEIGHT + farthest + 1), farthest=farthest)

    def test_lock_with_a_deadline_that_is_over(self):
        self.check(True, plain(0), ("lock", KEY, 20, 0))
        self.check(True, plain(0), ("lock", KEY, 20, HEIGHT - 1), farthest=0)

    def test_lock_needs_both(self):
        self.check(True, plain(0), ("lock", KEY, 14, HEIGHT + 15), least=14, farthest=15)
        self.check(False, plain(0), ("lock", KEY, 13, HEIGHT + 15), least=14, farthest=15)
        self.check(False, plain(0), ("lock", KEY, 14, HEIGHT + 16), least=14, farthest=15)

    def test_lock_is_judged_by_no_other_number(self):
        numbers = {"margin": 10 ** 12, "reveal_lead": 10 ** 12, "lead": 10 ** 12, "base": 10 ** 15, "gap": 10 ** 12,
                   "delay": 10 ** 12, "far": 0, "fee": 10 ** 15, "per_mille": 100000}
        self.check(True, plain(0), ("lock", KEY, 14, HEIGHT + 15), least=14, farthest=15, **numbers)

    def test_paid_in_time(self):
        for number, by_first in PROPOSERS:
            for lead in (0, 1, 16):
                with self.subTest(number=number, lead=lead):
                    lock = (KEY, 5, HEIGHT + lead, not by_first)
                    self.check(True, plain(number, lock), ("paid", 0, 5), reveal_lead=lead)
                    lock = (KEY, 5, HEIGHT + lead - 1, not by_first)
                    self.check(False, plain(number, lock), ("paid", 0, 5), reveal_lead=lead)

    def test_paid_with_an_opened_lock(self):
        for number, by_first in PROPOSERS:
            with self.subTest(number=number):
                state = plain(number, (KEY, 5, 50, not by_first))
                self.check(True, state, ("paid", 0, 5), receipts={KEY: 50})
                self.check(True, state, ("paid", 0, 5), receipts={KEY: 0})
                self.check(False, state, ("paid", 0, 5), receipts={KEY: 51})
                self.check(False, state, ("paid", 0, 5), receipts={OTHER_KEY: 50})

    def test_paid_is_judged_by_reveal_lead_alone(self):
        state = plain(0, (KEY, 5, HEIGHT + 3, False))
        self.check(True, state, ("paid", 0, 5), reveal_lead=3, lead=900, margin=900, farthest=0, least=900)
        self.check(False, state, ("paid", 0, 5), reveal_lead=4, lead=0, margin=0, farthest=900, least=0)

    def test_back_behind_the_deadline(self):
        for number, by_first in PROPOSERS:
            with self.subTest(number=number):
                self.check(True, plain(number, (KEY, 5, HEIGHT - 1, by_first)), ("back", 0))
                self.check(False, plain(number, (KEY, 5, HEIGHT, by_first)), ("back", 0))
                self.check(False, plain(number, (KEY, 5, HEIGHT + 1, by_first)), ("back", 0))

    def test_back_with_an_opened_lock(self):
        for number, by_first in PROPOSERS:
            with self.subTest(number=number):
                state = plain(number, (KEY, 5, 50, by_first))
                self.check(False, state, ("back", 0), receipts={KEY: 50})
                self.check(False, state, ("back", 0), receipts={KEY: 0})
                self.check(True, state, ("back", 0), receipts={KEY: 51})
                self.check(True, state, ("back", 0), receipts={OTHER_KEY: 50})

    def test_dropped_always(self):
        for number, by_first in PROPOSERS:
            for deadline in (0, HEIGHT, 10 ** 12):
                for receipts in ({}, {KEY: 0}):
                    with self.subTest(number=number, deadline=deadline, receipts=receipts):
                        state = plain(number, (KEY, 1, deadline, not by_first))
                        self.check(True, state, ("dropped", 0), receipts=receipts)

    def test_transfer_always(self):
        for number, _ in PROPOSERS:
            for amount in (1, 13, 14, 40):
                with self.subTest(number=number, amount=amount):
                    self.check(True, plain(number), ("transfer", amount), least=10 ** 15)

    def test_finish_always(self):
        for number, _ in PROPOSERS:
            self.check(True, plain(number), ("finish",))

    def test_a_step_that_does_not_exist(self):
        far = HEIGHT + 10
        state = plain(0, (KEY, 20, far, True), (KEY, 20, far, False))
        for move in (
            ("lock", KEY, 41, far), ("paid", 1, 6), ("paid", 0, 5), ("paid", 2, 5), ("paid", -1, 5), ("dropped", 0),
            ("dropped", 2), ("dropped", -1), ("transfer", 0), ("transfer", 41), ("finish",),
        ):
            with self.subTest(move=move):
                self.check(False, state, move, least=1, reveal_lead=0)
        self.check(True, state, ("paid", 1, 5), least=1, reveal_lead=0)

    def test_back_that_does_not_exist(self):
        state = plain(0, (KEY, 20, 0, True), (KEY, 20, 0, False))
        for place in (1, 2, -2):
            with self.subTest(place=place):
                self.check(False, state, ("back", place))
        self.check(True, state, ("back", 0))

    def test_a_ninth_lock(self):
        locks = [(k, 1, 200, True) for k in range(8)]
        self.check(True, plain(0, *locks[:7]), ("lock", KEY, 20, HEIGHT))
        self.check(False, plain(0, *locks), ("lock", KEY, 20, HEIGHT))

    def test_no_step_from_a_final_state(self):
        for number, _ in PROPOSERS:
            for moves in ((), (("transfer", 1),), (("finish",),)):
                with self.subTest(number=number, moves=moves):
                    self.check(False, (3, number, 40, 60, (), True), *moves)
        self.check(False, (3, 0, 40, 60, ((KEY, 5, 0, True),), True), ("back", 0))


class SeveralMovesTest(unittest.TestCase):
    def test_each_lock_is_judged_where_earlier_moves_left_it(self):
        over = (KEY, 5, HEIGHT - 1, True)
        runs = (KEY, 6, HEIGHT, True)
        self.assertIs(judge(plain(0, over, over), ("back", 0), ("back", 0)), True)
        self.assertIs(judge(plain(0, over, runs), ("back", 0), ("back", 0)), False)
        self.assertIs(judge(plain(0, runs, over, over), ("back", 1), ("back", 1)), True)
        self.assertIs(judge(plain(0, over, over, runs), ("back", 0), ("back", 1)), False)

    def test_paid_is_judged_where_earlier_moves_left_it(self):
        late = (KEY, 5, HEIGHT + 15, False)
        good = (KEY, 6, HEIGHT + 16, False)
        self.assertIs(judge(plain(0, late, good), ("paid", 1, 5), ("paid", 0, 5)), False)
        self.assertIs(judge(plain(0, late, good), ("dropped", 0), ("paid", 0, 5)), True)
        self.assertIs(judge(plain(0, good, late), ("dropped", 0), ("paid", 0, 5)), False)

    def test_a_lock_that_the_step_itself_adds(self):
        over = (("lock", KEY, 20, HEIGHT - 1), ("back", 0))
        self.assertIs(judge(plain(0), *over), True)
        self.assertIs(judge(plain(0), *over, receipts={KEY: HEIGHT - 1}), False)
        self.assertIs(judge(plain(0), ("lock", KEY, 20, HEIGHT), ("back", 0)), False)

    def test_a_move_that_needs_the_earlier_one(self):
        state = plain(0, (KEY, 20, HEIGHT + 16, False), first=0)
        self.assertIs(judge(state, ("paid", 0, 5), ("lock", KEY, 20, HEIGHT), least=20), True)
        self.assertIs(judge(state, ("lock", KEY, 20, HEIGHT), ("paid", 0, 5), least=20), False)
        self.assertIs(judge(state, ("paid", 0, 5), ("lock", KEY, 20, HEIGHT), least=21), False)

    def test_the_least_is_asked_of_each_lock(self):
        self.assertIs(judge(plain(0), ("lock", KEY, 20, HEIGHT), ("lock", KEY, 14, HEIGHT)), True)
        self.assertIs(judge(plain(0), ("lock", KEY, 20, HEIGHT), ("lock", KEY, 13, HEIGHT)), False)
        self.assertIs(judge(plain(0), ("lock", KEY, 13, HEIGHT), ("lock", KEY, 20, HEIGHT)), False)

    def test_the_last_move_does_not_exist(self):
        self.assertIs(judge(plain(0), ("transfer", 40), ("finish",)), True)
        self.assertIs(judge(plain(0), ("transfer", 40), ("transfer", 1)), False)
        self.assertIs(judge(plain(0), ("transfer", 40), ("finish",), ("finish",)), False)


class CoverTest(unittest.TestCase):
    def judge(self, state, move, cover):
        return agrees(settings_with(), HEIGHT, {}, state, (move,), cover=cover)

    def test_the_cover_of_the_proposer(self):
        for move, more in (
            (("transfer", 45), ("transfer", 46)), (("lock", KEY, 45, HEIGHT), ("lock", KEY, 46, HEIGHT)),
        ):
            with self.subTest(move=move):
                self.assertIs(self.judge(plain(0), move, (5, 0)), True)
                self.assertIs(self.judge(plain(0), more, (5, 0)), False)
                self.assertIs(self.judge(plain(0), move, (4, 900)), False)
                self.assertIs(self.judge(plain(1, second=40), move, (0, 5)), True)
                self.assertIs(self.judge(plain(1, second=40), more, (0, 5)), False)
                self.assertIs(self.judge(plain(1, second=40), move, (900, 4)), False)

    def test_a_negative_cover(self):
        self.assertIs(self.judge(plain(0), ("transfer", 35), (-5, 0)), True)
        self.assertIs(self.judge(plain(0), ("transfer", 36), (-5, 0)), False)

    def test_the_cover_left_out(self):
        self.assertIs(judge(plain(0), ("transfer", 40)), True)
        self.assertIs(judge(plain(0), ("transfer", 41)), False)
        self.assertIs(judge(plain(1), ("transfer", 60)), True)
        self.assertIs(judge(plain(1), ("transfer", 61)), False)


class ArgumentsTest(unittest.TestCase):
    def test_settings_and_receipts_are_not_changed(self):
        settings = settings_with()
        receipts = {OTHER_KEY: 3, KEY: 50}
        state = plain(0, (KEY, 5, 50, False), (KEY, 5, 60, True), (OTHER_KEY, 5, 2, True))
        agrees(settings, HEIGHT, receipts, state, (("paid", 0, 5), ("back", 1), ("lock", 1, 20, HEIGHT), ("back", 0)))
        self.assertEqual({name: getattr(settings, name) for name in PLAIN_SETTINGS}, PLAIN_SETTINGS)
        self.assertEqual(list(receipts.items()), [(OTHER_KEY, 3), (KEY, 50)])


if __name__ == "__main__":
    unittest.main()
