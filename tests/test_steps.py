"""Points 13 to 15: proposers, covers and steps."""

import unittest

from tests.helpers import secret_with_key
from turnpike.money.keys import key_of
from turnpike.money.steps import first_proposes, next_state

MUCH = 10 ** 15
KEY = key_of(5)
OTHER_KEY = key_of(6)

# Behind state 0 the first end proposes, behind state 1 the second one.
FROM_FIRST = (KEY, 5, 100, True)
FROM_SECOND = (OTHER_KEY, 9, 200, False)


def plain(number, *locks, first=40, second=60):
    """Return a state with this number and these locks that is not final."""
    return (3, number, first, second, tuple(locks), False)


def free_locks(many):
    """Return as many different locks of both ends."""
    return tuple((k, k + 1, k + 2, k % 2 == 0) for k in range(many))


class FirstProposesTest(unittest.TestCase):
    def test_odd_numbers(self):
        for number in (1, 3, 7, 4294967295):
            with self.subTest(number=number):
                self.assertIs(first_proposes(number), True)

    def test_even_numbers(self):
        for number in (0, 2, 8, 4294967294):
            with self.subTest(number=number):
                self.assertIs(first_proposes(number), False)


class EmptyStepTest(unittest.TestCase):
    def test_a_pass_changes_the_number_alone(self):
        for number in (0, 1, 6, 7):
            with self.subTest(number=number):
                state = plain(number, FROM_FIRST, FROM_SECOND, first=-3)
                self.assertEqual(next_state(state, ()), (3, number + 1, -3, 60, (FROM_FIRST, FROM_SECOND), False))

    def test_no_step_from_a_final_state(self):
        for number in (0, 1):
            for moves in ((), (("transfer", 1),), (("finish",),), (("lock", 1, 1, 1),)):
                with self.subTest(number=number, moves=moves):
                    self.assertIsNone(next_state((3, number, 40, 60, (), True), moves))

    def test_no_step_from_a_final_state_that_has_locks(self):
        state = (3, 0, 40, 60, (FROM_FIRST, FROM_SECOND), True)
        for moves in ((), (("back", 0),), (("dropped", 1),), (("paid", 1, 6),)):
            with self.subTest(moves=moves):
                self.assertIsNone(next_state(state, moves))

    def test_a_tuple_with_a_tuple_of_locks_comes_back(self):
        state = next_state(plain(0, FROM_FIRST), (("back", 0),))
        self.assertIs(type(state), tuple)
        self.assertIs(type(state[4]), tuple)
        self.assertIs(state[5], False)


class LockTest(unittest.TestCase):
    def test_the_first_end(self):
        state = next_state(plain(0, FROM_SECOND), (("lock", 77, 15, 300),))
        self.assertEqual(state, (3, 1, 25, 60, (FROM_SECOND, (77, 15, 300, True)), False))
        self.assertIs(state[4][1][3], True)

    def test_the_second_end(self):
        state = next_state(plain(1, FROM_SECOND), (("lock", 77, 15, 300),))
        self.assertEqual(state, (3, 2, 40, 45, (FROM_SECOND, (77, 15, 300, False)), False))
        self.assertIs(state[4][1][3], False)

    def test_the_least_amount(self):
        self.assertIsNone(next_state(plain(0), (("lock", 77, 0, 300),)))
        self.assertEqual(next_state(plain(0), (("lock", 77, 1, 300),)), (3, 1, 39, 60, ((77, 1, 300, True),), False))

    def test_an_amount_below_zero(self):
        for number in (0, 1):
            self.assertIsNone(next_state(plain(number), (("lock", 77, -1, 300),)))

    def test_the_greatest_amount(self):
        for number, free in ((0, 40), (1, 60)):
            with self.subTest(number=number):
                self.assertIsNotNone(next_state(plain(number), (("lock", 77, free, 300),)))
                self.assertIsNone(next_state(plain(number), (("lock", 77, free + 1, 300),)))

    def test_the_eighth_lock_and_a_ninth(self):
        for number in (0, 1):
            with self.subTest(number=number):
                locks = free_locks(7)
                state = next_state(plain(number, *locks), (("lock", 77, 1, 300),))
                self.assertEqual(state[4], locks + ((77, 1, 300, number == 0),))
                self.assertIsNone(next_state(plain(number, *free_locks(8)), (("lock", 77, 1, 300),)))
                self.assertIsNone(next_state(plain(number, *free_locks(9)), (("lock", 77, 1, 300),)))
                self.assertIsNone(next_state(plain(number, *free_locks(30)), (("lock", 77, 1, 300),)))

    def test_equal_locks_may_stand_beside_each_other(self):
        state = next_state(plain(0, FROM_FIRST), (("lock", KEY, 5, 100),))
        self.assertEqual(state[4], (FROM_FIRST, FROM_FIRST))

    def test_any_deadline(self):
        for deadline in (0, 10 ** 12):
            self.assertEqual(next_state(plain(0), (("lock", 0, 2, deadline),))[4], ((0, 2, deadline, True),))

    def test_great_amounts(self):
        state = next_state(plain(0, first=MUCH), (("lock", 77, MUCH, 300),))
        self.assertEqual(state[2:5], (0, 60, ((77, MUCH, 300, True),)))
        self.assertIsNone(next_state(plain(0, first=MUCH - 1), (("lock", 77, MUCH, 300),)))


class PaidTest(unittest.TestCase):
    def test_the_first_end_is_paid(self):
        state = next_state(plain(0, FROM_FIRST, FROM_SECOND), (("paid", 1, 6),))
        self.assertEqual(state, (3, 1, 49, 60, (FROM_FIRST,), False))

    def test_the_second_end_is_paid(self):
        state = next_state(plain(1, FROM_FIRST, FROM_SECOND), (("paid", 0, 5),))
        self.assertEqual(state, (3, 2, 40, 65, (FROM_SECOND,), False))

    def test_a_secret_of_another_key(self):
        for number, place, secret in ((0, 1, 5), (0, 1, 7), (1, 0, 6), (1, 0, 0)):
            with self.subTest(number=number, secret=secret):
                self.assertIsNone(next_state(plain(number, FROM_FIRST, FROM_SECOND), (("paid", place, secret),)))

    def test_the_key_itself_is_no_secret(self):
        self.assertIsNone(next_state(plain(0, FROM_SECOND), (("paid", 0, OTHER_KEY),)))

    def test_a_place_that_is_not_there(self):
        for place in (1, 2, 4294967295, -1):
            with self.subTest(place=place):
                self.assertIsNone(next_state(plain(0, FROM_SECOND), (("paid", place, 6),)))
        self.assertIsNone(next_state(plain(0), (("paid", 0, 6),)))

    def test_a_lock_of_the_wrong_end(self):
        self.assertIsNone(next_state(plain(0, FROM_FIRST), (("paid", 0, 5),)))
        self.assertIsNone(next_state(plain(1, FROM_SECOND), (("paid", 0, 6),)))

    def test_the_least_and_the_greatest_secret(self):
        for secret in (0, 4294967295):
            state = next_state(plain(0, (key_of(secret), 9, 1, False)), (("paid", 0, secret),))
            self.assertEqual(state, (3, 1, 49, 60, (), False))

    def test_the_least_key(self):
        state = next_state(plain(0, (0, 9, 1, False)), (("paid", 0, secret_with_key(0)),))
        self.assertEqual(state, (3, 1, 49, 60, (), False))

    def test_what_is_free_does_not_matter(self):
        state = next_state(plain(0, FROM_SECOND, first=-70, second=-80), (("paid", 0, 6),))
        self.assertEqual(state, (3, 1, -61, -80, (), False))


class DroppedTest(unittest.TestCase):
    def test_the_first_end_drops(self):
        state = next_state(plain(0, FROM_FIRST, FROM_SECOND), (("dropped", 1),))
        self.assertEqual(state, (3, 1, 40, 69, (FROM_FIRST,), False))

    def test_the_second_end_drops(self):
        state = next_state(plain(1, FROM_FIRST, FROM_SECOND), (("dropped", 0),))
        self.assertEqual(state, (3, 2, 45, 60, (FROM_SECOND,), False))

    def test_a_place_that_is_not_there(self):
        for place in (1, 2, 4294967295, -1):
            with self.subTest(place=place):
                self.assertIsNone(next_state(plain(0, FROM_SECOND), (("dropped", place),)))
        self.assertIsNone(next_state(plain(1), (("dropped", 0),)))

    def test_a_lock_of_the_wrong_end(self):
        self.assertIsNone(next_state(plain(0, FROM_FIRST), (("dropped", 0),)))
        self.assertIsNone(next_state(plain(1, FROM_SECOND), (("dropped", 0),)))


class BackTest(unittest.TestCase):
    def test_the_first_end_takes_back(self):
        state = next_state(plain(0, FROM_FIRST, FROM_SECOND), (("back", 0),))
        self.assertEqual(state, (3, 1, 45, 60, (FROM_SECOND,), False))

    def test_the_second_end_takes_back(self):
        state = next_state(plain(1, FROM_FIRST, FROM_SECOND), (("back", 1),))
        self.assertEqual(state, (3, 2, 40, 69, (FROM_FIRST,), False))

    def test_a_place_that_is_not_there(self):
        for place in (1, 2, 4294967295, -1):
            with self.subTest(place=place):
                self.assertIsNone(next_state(plain(0, FROM_FIRST), (("back", place),)))
        self.assertIsNone(next_state(plain(0), (("back", 0),)))

    def test_a_lock_of_the_wrong_end(self):
        self.assertIsNone(next_state(plain(0, FROM_SECOND), (("back", 0),)))
        self.assertIsNone(next_state(plain(1, FROM_FIRST), (("back", 0),)))


class TransferTest(unittest.TestCase):
    def test_both_ends(self):
        self.assertEqual(next_state(plain(0, FROM_FIRST), (("transfer", 7),)), (3, 1, 33, 67, (FROM_FIRST,), False))
        self.assertEqual(next_state(plain(1, FROM_FIRST), (("transfer", 7),)), (3, 2, 47, 53, (FROM_FIRST,), False))

    def test_the_least_amount(self):
        for number in (0, 1):
            with self.subTest(number=number):
                self.assertIsNone(next_state(plain(number), (("transfer", -1),)))
                self.assertIsNone(next_state(plain(number), (("transfer", 0),)))
                self.assertIsNotNone(next_state(plain(number), (("transfer", 1),)))

    def test_the_greatest_amount(self):
        self.assertEqual(next_state(plain(0), (("transfer", 40),)), (3, 1, 0, 100, (), False))
        self.assertIsNone(next_state(plain(0), (("transfer", 41),)))
        self.assertEqual(next_state(plain(1), (("transfer", 60),)), (3, 2, 100, 0, (), False))
        self.assertIsNone(next_state(plain(1), (("transfer", 61),)))

    def test_great_amounts(self):
        state = plain(0, first=MUCH, second=-3 * MUCH)
        self.assertEqual(next_state(state, (("transfer", MUCH),)), (3, 1, 0, -2 * MUCH, (), False))
        self.assertIsNone(next_state(plain(0, first=MUCH - 1), (("transfer", MUCH),)))

    def test_more_than_eight_locks_do_not_matter(self):
        self.assertIsNotNone(next_state(plain(0, *free_locks(9)), (("transfer", 40),)))


class FinishTest(unittest.TestCase):
    def test_both_ends(self):
        for number in (0, 1):
            with self.subTest(number=number):
                state = next_state(plain(number), (("finish",),))
                self.assertEqual(state, (3, number + 1, 40, 60, (), True))
                self.assertIs(state[5], True)

    def test_with_a_lock(self):
        for number in (0, 1):
            for lock in (FROM_FIRST, FROM_SECOND):
                with self.subTest(number=number, lock=lock):
                    self.assertIsNone(next_state(plain(number, lock), (("finish",),)))

    def test_what_is_free_does_not_matter(self):
        self.assertEqual(next_state(plain(0, first=-1, second=0), (("finish",),)), (3, 1, -1, 0, (), True))


class CoverTest(unittest.TestCase):
    def test_the_cover_of_the_proposer_counts(self):
        for word in ("transfer", "lock"):
            for number, free, cover in ((0, 40, (5, 0)), (0, 40, (-5, 0)), (1, 60, (0, 5)), (1, 60, (0, -5))):
                most = free + cover[number]
                tail = (77, most, 300) if word == "lock" else (most,)
                more = (77, most + 1, 300) if word == "lock" else (most + 1,)
                with self.subTest(word=word, number=number, cover=cover):
                    self.assertIsNotNone(next_state(plain(number), ((word, *tail),), cover=cover))
                    self.assertIsNone(next_state(plain(number), ((word, *more),), cover=cover))

    def test_the_cover_of_the_other_end_does_not_count(self):
        self.assertIsNone(next_state(plain(0), (("transfer", 41),), cover=(0, 100)))
        self.assertIsNotNone(next_state(plain(0), (("transfer", 40),), cover=(0, -100)))
        self.assertIsNone(next_state(plain(1), (("lock", 1, 61, 1),), cover=(100, 0)))
        self.assertIsNotNone(next_state(plain(1), (("lock", 1, 60, 1),), cover=(-100, 0)))

    def test_the_cover_does_not_change_the_state_itself(self):
        self.assertEqual(next_state(plain(0), (("transfer", 45),), cover=(5, 9)), (3, 1, -5, 105, (), False))
        self.assertEqual(next_state(plain(1), (("lock", 1, 65, 2),), cover=(7, 5))[2:4], (40, -5))
        self.assertEqual(next_state(plain(0), (), cover=(5, 9)), plain(1))

    def test_a_cover_of_zero_and_the_cover_left_out(self):
        for moves in ((("transfer", 40),), (("transfer", 41),), ()):
            with self.subTest(moves=moves):
                self.assertEqual(next_state(plain(0), moves), next_state(plain(0), moves, cover=(0, 0)))

    def test_negative_amounts_free(self):
        state = plain(0, first=-10)
        self.assertIsNone(next_state(state, (("transfer", 1),)))
        self.assertIsNone(next_state(state, (("transfer", 1),), cover=(10, 0)))
        self.assertEqual(next_state(state, (("transfer", 1),), cover=(11, 0)), (3, 1, -11, 61, (), False))

    def test_great_covers(self):
        state = plain(0, first=-2 * MUCH)
        self.assertIsNone(next_state(state, (("lock", 77, MUCH, 300),), cover=(3 * MUCH - 1, 0)))
        self.assertEqual(next_state(state, (("lock", 77, MUCH, 300),), cover=(3 * MUCH, 0))[2], -3 * MUCH)

    def test_the_cover_matters_only_for_what_is_spent(self):
        state = plain(0, FROM_SECOND, FROM_FIRST)
        moves = (("paid", 0, 6), ("back", 0), ("finish",))
        self.assertEqual(next_state(state, moves, cover=(-1000, -1000)), (3, 1, 54, 60, (), True))
        self.assertIsNotNone(next_state(state, (("dropped", 0),), cover=(-1000, -1000)))


class SeveralMovesTest(unittest.TestCase):
    def test_a_later_move_spends_what_an_earlier_one_freed(self):
        state = plain(0, FROM_SECOND, first=0)
        self.assertIsNone(next_state(state, (("transfer", 9),)))
        self.assertEqual(next_state(state, (("paid", 0, 6), ("transfer", 9))), (3, 1, 0, 69, (), False))
        self.assertIsNone(next_state(state, (("paid", 0, 6), ("transfer", 10))))
        self.assertIsNone(next_state(state, (("transfer", 9), ("paid", 0, 6))))

    def test_what_is_spent_once_is_not_spent_twice(self):
        self.assertIsNotNone(next_state(plain(0), (("transfer", 20), ("lock", 77, 20, 300))))
        self.assertIsNone(next_state(plain(0), (("transfer", 20), ("lock", 77, 21, 300))))
        self.assertIsNone(next_state(plain(1), (("lock", 77, 30, 300), ("transfer", 31))))

    def test_the_cover_is_spent_once(self):
        moves = (("transfer", 30), ("transfer", 15))
        self.assertIsNotNone(next_state(plain(0), moves, cover=(5, 0)))
        self.assertIsNone(next_state(plain(0), moves, cover=(4, 0)))

    def test_places_are_those_behind_the_earlier_moves(self):
        locks = (FROM_FIRST, FROM_SECOND, (KEY, 1, 50, True))
        moves = (("back", 0), ("back", 1))
        self.assertEqual(next_state(plain(0, *locks), moves), (3, 1, 46, 60, (FROM_SECOND,), False))
        self.assertIsNone(next_state(plain(0, *locks), (("back", 0), ("back", 2))))
        self.assertIsNone(next_state(plain(0, *locks), (("back", 0), ("back", 0))))

    def test_a_lock_is_taken_back_at_once(self):
        moves = (("lock", 77, 15, 300), ("back", 1))
        self.assertEqual(next_state(plain(0, FROM_SECOND), moves), plain(1, FROM_SECOND))

    def test_room_for_a_lock_that_an_earlier_move_makes(self):
        locks = free_locks(8)
        state = plain(0, *locks)
        added = next_state(state, (("back", 2), ("lock", 77, 1, 300)))
        self.assertEqual(added[4], locks[:2] + locks[3:] + ((77, 1, 300, True),))
        self.assertIsNone(next_state(state, (("lock", 77, 1, 300), ("back", 2))))
        self.assertIsNone(next_state(state, (("back", 2), ("lock", 77, 1, 300), ("lock", 77, 1, 300))))

    def test_finish_behind_the_last_lock(self):
        state = plain(0, FROM_FIRST, FROM_SECOND)
        self.assertEqual(next_state(state, (("back", 0), ("dropped", 0), ("finish",))), (3, 1, 45, 69, (), True))
        self.assertIsNone(next_state(state, (("back", 0), ("finish",))))
        self.assertIsNone(next_state(state, (("finish",), ("back", 0), ("dropped", 0))))

    def test_nothing_goes_behind_finish(self):
        for move in (("lock", 77, 1, 300), ("transfer", 1), ("finish",), ("back", 0), ("dropped", 0), ("paid", 0, 5)):
            for number in (0, 1):
                with self.subTest(move=move, number=number):
                    self.assertIsNone(next_state(plain(number), (("finish",), move)))

    def test_the_last_move_fails(self):
        state = plain(0, FROM_FIRST, FROM_SECOND)
        moves = (("back", 0), ("lock", 77, 10, 300), ("transfer", 5))
        self.assertIsNotNone(next_state(state, moves))
        for move in (("transfer", 31), ("paid", 0, 5), ("back", 0), ("dropped", 1), ("finish",)):
            with self.subTest(move=move):
                self.assertIsNone(next_state(state, moves + (move,)))

    def test_the_first_move_fails(self):
        self.assertIsNone(next_state(plain(0), (("transfer", 41), ("transfer", 1))))

    def test_sixteen_moves(self):
        state = next_state(plain(1), (("transfer", 2),) * 8 + (("lock", 77, 3, 300),) * 8)
        self.assertEqual(state, (3, 2, 56, 20, ((77, 3, 300, False),) * 8, False))

    def test_the_proposer_stays_the_same(self):
        moves = (("transfer", 60), ("transfer", 1))
        self.assertIsNone(next_state(plain(1), moves))


if __name__ == "__main__":
    unittest.main()
