"""Point 15, class Draft: what the moves of one step have made so far."""

import unittest

from turnpike.money.keys import key_of
from turnpike.money.steps import Draft

KEY = key_of(5)
FROM_FIRST = (KEY, 5, 100, True)
FROM_SECOND = (KEY, 9, 200, False)
BY_FIRST = (3, 0, 40, 60, (FROM_FIRST, FROM_SECOND), False)
BY_SECOND = (3, 1, 40, 60, (FROM_FIRST, FROM_SECOND), False)


def fields(draft):
    return (draft.own, draft.others, draft.locks, draft.closed)


class DraftTest(unittest.TestCase):
    def check_move(self, draft, move, *expected):
        self.assertIs(draft.make(move), True)
        self.assertEqual(fields(draft), expected)

    def check_refusal(self, draft, move):
        before = (draft.own, draft.others, list(draft.locks), draft.closed)
        self.assertIs(draft.make(move), False)
        self.assertEqual(fields(draft), before)

    def test_a_new_draft(self):
        self.assertEqual(fields(Draft(BY_FIRST, (0, 0))), (40, 60, [FROM_FIRST, FROM_SECOND], False))
        self.assertEqual(fields(Draft(BY_SECOND, (0, 0))), (60, 40, [FROM_FIRST, FROM_SECOND], False))

    def test_the_kinds_of_the_fields(self):
        draft = Draft(BY_FIRST, (0, 0))
        self.assertIs(type(draft.locks), list)
        self.assertIs(draft.closed, False)

    def test_the_cover_is_not_in_what_is_free(self):
        self.assertEqual(fields(Draft(BY_FIRST, (7, 8)))[:2], (40, 60))
        self.assertEqual(fields(Draft(BY_SECOND, (7, 8)))[:2], (60, 40))

    def test_lock(self):
        self.check_move(Draft(BY_FIRST, (0, 0)), ("lock", 77, 15, 300),
                        25, 60, [FROM_FIRST, FROM_SECOND, (77, 15, 300, True)], False)
        self.check_move(Draft(BY_SECOND, (0, 0)), ("lock", 77, 15, 300),
                        45, 40, [FROM_FIRST, FROM_SECOND, (77, 15, 300, False)], False)

    def test_paid(self):
        self.check_move(Draft(BY_FIRST, (0, 0)), ("paid", 1, 5), 49, 60, [FROM_FIRST], False)
        self.check_move(Draft(BY_SECOND, (0, 0)), ("paid", 0, 5), 65, 40, [FROM_SECOND], False)

    def test_dropped(self):
        self.check_move(Draft(BY_FIRST, (0, 0)), ("dropped", 1), 40, 69, [FROM_FIRST], False)
        self.check_move(Draft(BY_SECOND, (0, 0)), ("dropped", 0), 60, 45, [FROM_SECOND], False)

    def test_back(self):
        self.check_move(Draft(BY_FIRST, (0, 0)), ("back", 0), 45, 60, [FROM_SECOND], False)
        self.check_move(Draft(BY_SECOND, (0, 0)), ("back", 1), 69, 40, [FROM_FIRST], False)

    def test_transfer(self):
        self.check_move(Draft(BY_FIRST, (0, 0)), ("transfer", 40), 0, 100, [FROM_FIRST, FROM_SECOND], False)
        self.check_move(Draft(BY_SECOND, (0, 3)), ("transfer", 63), -3, 103, [FROM_FIRST, FROM_SECOND], False)

    def test_finish(self):
        for number, own, others in ((0, 40, 60), (1, 60, 40)):
            draft = Draft((3, number, 40, 60, (), False), (0, 0))
            self.check_move(draft, ("finish",), own, others, [], True)
            self.assertIs(draft.closed, True)

    def test_a_refused_move_changes_nothing(self):
        for move in (
            ("lock", 77, 0, 300), ("lock", 77, 41, 300), ("paid", 0, 5), ("paid", 1, 6), ("paid", 2, 5),
            ("paid", -1, 5), ("dropped", 0), ("dropped", 2), ("dropped", -1), ("back", 1), ("back", 2),
            ("back", -2), ("transfer", 0), ("transfer", 41), ("finish",),
        ):
            with self.subTest(move=move):
                self.check_refusal(Draft(BY_FIRST, (0, 1000)), move)

    def test_a_ninth_lock_changes_nothing(self):
        draft = Draft((3, 0, 40, 60, (FROM_SECOND,) * 8, False), (0, 0))
        self.check_refusal(draft, ("lock", 77, 1, 300))

    def test_a_finished_draft_refuses_all(self):
        draft = Draft((3, 0, 40, 60, (), False), (0, 0))
        self.assertIs(draft.make(("finish",)), True)
        for move in (("finish",), ("lock", 77, 1, 300), ("transfer", 1), ("back", 0), ("dropped", 0), ("paid", 0, 5)):
            with self.subTest(move=move):
                self.check_refusal(draft, move)

    def test_it_goes_on_behind_a_refusal(self):
        draft = Draft(BY_FIRST, (0, 0))
        self.check_refusal(draft, ("transfer", 41))
        self.check_move(draft, ("transfer", 40), 0, 100, [FROM_FIRST, FROM_SECOND], False)
        self.check_refusal(draft, ("transfer", 1))
        self.check_move(draft, ("back", 0), 5, 100, [FROM_SECOND], False)
        self.check_move(draft, ("lock", 1, 5, 2), 0, 100, [FROM_SECOND, (1, 5, 2, True)], False)

    def test_the_state_stays_as_it_is(self):
        state = (3, 0, 40, 60, (FROM_FIRST, FROM_SECOND), False)
        draft = Draft(state, (0, 0))
        draft.make(("back", 0))
        draft.make(("dropped", 0))
        draft.make(("finish",))
        self.assertEqual(state, (3, 0, 40, 60, (FROM_FIRST, FROM_SECOND), False))

    def test_two_drafts_share_no_list(self):
        one = Draft(BY_FIRST, (0, 0))
        other = Draft(BY_FIRST, (0, 0))
        self.assertIsNot(one.locks, other.locks)
        one.make(("back", 0))
        one.locks.append("seen")
        self.assertEqual(fields(other), (40, 60, [FROM_FIRST, FROM_SECOND], False))


if __name__ == "__main__":
    unittest.main()
