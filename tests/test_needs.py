"""Point 47: what a party needs in its purse."""

import unittest

from tests.helpers import FEE, KEY, end_with, member_fields, opening_with, party_with, splice_with
from turnpike.party.needs import covers, needs

END = 3 * FEE


def into(amount=1, from_first=False):
    """Return a lock."""
    return (KEY, amount, 120, from_first)


class NeedsTest(unittest.TestCase):
    def check(self, expected, *ends, pending=0, **more):
        member = party_with(*ends, **more).now
        member.pending = pending
        before = member_fields(member)
        self.assertEqual(needs(member), expected)
        self.assertEqual(member_fields(member), before)

    def test_nothing(self):
        self.check(0)

    def test_the_fee_three_times_for_each_end(self):
        self.check(END, end_with())
        self.check(END, end_with(as_first=False))
        self.check(3 * END, end_with(), end_with(channel=8), end_with(channel=9, as_first=False))
        self.check(21, end_with(), fee=7)

    def test_locks_that_go_to_the_party(self):
        for many in (1, 2, 5):
            with self.subTest(many=many):
                self.check(END + many * FEE, end_with(*[into()] * many))
                self.check(END + many * FEE, end_with(*[into(from_first=True)] * many, as_first=False))

    def test_its_own_locks(self):
        self.check(END, end_with(*[into(from_first=True)] * 4))
        self.check(END, end_with(*[into()] * 4, as_first=False))

    def test_locks_of_both_sides(self):
        locks = (into(), into(from_first=True), into(), into(from_first=True), into(from_first=True))
        self.check(END + 2 * FEE, end_with(*locks))
        self.check(END + 3 * FEE, end_with(*locks, as_first=False))

    def test_locks_of_several_ends(self):
        self.check(2 * END + 3 * FEE, end_with(into()), end_with(into(), into(), channel=8))

    def test_what_is_decided_does_not_matter(self):
        self.check(END + FEE, end_with((KEY, 1, 3, False)))
        self.check(END + FEE, end_with(into()), receipts={KEY: 3})

    def test_an_open_step_that_has_fewer(self):
        end = end_with(into(), into())
        end.propose((("dropped", 0),))
        self.check(END + 2 * FEE, end)
        end.hear_answer(1)
        self.check(END + FEE, end)

    def test_an_open_step_that_has_more(self):
        # An honest end never adds a lock that goes to itself, but it can be built.
        end = end_with(into())
        end.step = ()
        end.next = end_with(into(), into(), into(), number=1).last
        self.check(END + 3 * FEE, end)

    def test_an_open_step_that_has_more_of_its_own(self):
        end = end_with(into())
        end.propose((("lock", KEY, 3, 120), ("lock", KEY, 3, 120)))
        self.check(END + FEE, end)

    def test_open_splices(self):
        splices = [splice_with(first_in=40, second_in=7), splice_with(first_in=30, second_in=9)]
        self.check(END + 40, end_with(splices=splices))
        self.check(END + 9, end_with(as_first=False, splices=splices))
        self.check(END, end_with(splices=[splice_with(first_out=40, second_in=7)]))

    def test_an_end_that_is_not_there_yet(self):
        self.check(END + 400, end_with(there=False))
        self.check(END + 400, end_with(there=False, opening=opening_with(first_in=400, second_in=0)))
        self.check(END + 600, end_with(as_first=False, there=False))
        self.check(END, end_with(there=False, opening=opening_with(first_in=0, second_in=600)))

    def test_an_end_that_is_frozen_or_leaving(self):
        end = end_with(into())
        end.leave()
        self.check(END + FEE, end)

    def test_pending_things(self):
        self.check(FEE, pending=1)
        self.check(4 * FEE, pending=4)

    def test_all_together(self):
        there = end_with(into(), into(), splices=[splice_with(first_in=11)])
        new = end_with(channel=8, as_first=False, there=False)
        self.check(2 * END + 2 * FEE + 11 + 600 + 3 * FEE, there, new, pending=3)

    def test_other_settings_do_not_matter(self):
        self.check(END, end_with(), base=900, least=900, lead=900, margin=900)


class CoversTest(unittest.TestCase):
    def test_a_purse_that_just_covers_the_needs(self):
        member = party_with(end_with(into(), there=False)).now
        member.pending = 2
        expected = END + FEE + 400 + 2 * FEE
        for purse, covered in (
            (expected - 1, False), (expected, True), (expected + 1, True), (0, False), (10 ** 15, True),
        ):
            with self.subTest(purse=purse):
                member.purse_known = purse
                before = member_fields(member)
                self.assertIs(covers(member), covered)
                self.assertEqual(member_fields(member), before)

    def test_an_empty_purse(self):
        self.assertIs(covers(party_with(purse=0).now), True)


if __name__ == "__main__":
    unittest.main()
