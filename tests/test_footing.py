"""Points 42 and 43: what splices change for an end, and what seeing the channel changes."""

import unittest

from tests.helpers import footing_fields, vault_fields
from turnpike.channel.footing import Footing, copy_footing
from turnpike.ledger.vault import Vault

MUCH = 10 ** 15
OPENING = (7, 1, 2, 40, 60, 10, 1000)


def splice(first_in=0, first_out=0, second_in=0, second_out=0, until=1000, index=0):
    """Return a splice of channel 7."""
    return (7, index, 0, until, first_in, first_out, second_in, second_out)


def footing_with(*splices, sums=(0, 0, 0, 0), taken=0):
    """Return a footing with these open splices."""
    footing = Footing()
    footing.sums = sums
    footing.taken = taken
    footing.splices.extend(splices)
    return footing


class NewFootingTest(unittest.TestCase):
    def test_the_fields(self):
        footing = Footing()
        self.assertEqual(footing_fields(footing), ((0, 0, 0, 0), 0, []))
        self.assertIs(type(footing.sums), tuple)
        self.assertIs(type(footing.splices), list)

    def test_nothing_is_covered_or_owed(self):
        self.assertEqual(Footing().cover(), (0, 0))
        self.assertEqual([Footing().may_owe(True), Footing().may_owe(False)], [0, 0])

    def test_two_footings_share_nothing(self):
        one = Footing()
        one.splices.append(splice())
        self.assertEqual(Footing().splices, [])


class CoverTest(unittest.TestCase):
    def check(self, expected, *splices, **more):
        footing = footing_with(*splices, **more)
        before = footing_fields(footing)
        found = footing.cover()
        self.assertEqual(found, expected)
        self.assertIs(type(found), tuple)
        self.assertEqual(footing_fields(footing), before)

    def test_each_sum(self):
        self.check((9, 0), sums=(9, 0, 0, 0))
        self.check((-9, 0), sums=(0, 9, 0, 0))
        self.check((0, 9), sums=(0, 0, 9, 0))
        self.check((0, -9), sums=(0, 0, 0, 9))
        self.check((800, 26), sums=(1000, 200, 30, 4))
        self.check((MUCH, -MUCH), sums=(MUCH, 0, 0, MUCH))

    def test_one_that_takes_out(self):
        self.check((-7, 0), splice(first_out=7))
        self.check((0, -7), splice(second_out=7))
        self.check((-7, -8), splice(first_out=7, second_out=8))

    def test_one_that_puts_in(self):
        self.check((0, 0), splice(first_in=7))
        self.check((0, 0), splice(second_in=7))
        self.check((0, 0), splice(first_in=7, second_in=8))

    def test_one_that_does_both(self):
        self.check((-3, 0), splice(first_in=5, first_out=8))
        self.check((0, 0), splice(first_in=8, first_out=8))
        self.check((0, 0), splice(first_in=9, first_out=8))
        self.check((0, -3), splice(second_in=5, second_out=8))
        self.check((0, 0), splice(second_in=9, second_out=8))
        self.check((0, -8), splice(first_in=5, second_out=8))

    def test_the_least_of_several(self):
        self.check((-9, -6), splice(first_out=3), splice(first_out=9, second_out=4), splice(second_out=6))
        self.check((-9, 0), splice(first_out=9), splice(first_in=20), splice(first_out=2))
        self.check((0, 0), splice(first_in=9), splice(first_in=20))

    def test_the_same_one_twice(self):
        self.check((-5, -6), splice(first_out=5, second_out=6), splice(first_out=5, second_out=6))

    def test_sums_and_splices(self):
        self.check((8 - 5, 4), splice(first_out=5), splice(second_in=3), sums=(9, 1, 6, 2))
        self.check((8, 4 - 6), splice(second_out=6), sums=(9, 1, 6, 2))


class MayOweTest(unittest.TestCase):
    def check(self, first, second, *splices, **more):
        footing = footing_with(*splices, **more)
        before = footing_fields(footing)
        self.assertEqual((footing.may_owe(True), footing.may_owe(False)), (first, second))
        self.assertEqual(footing_fields(footing), before)

    def test_one_splice(self):
        self.check(7, 0, splice(first_in=7))
        self.check(0, 7, splice(second_in=7))
        self.check(7, 8, splice(first_in=7, second_in=8))

    def test_what_is_taken_out_does_not_matter(self):
        self.check(0, 0, splice(first_out=7, second_out=8))
        self.check(7, 3, splice(first_in=7, first_out=70, second_in=3, second_out=30))

    def test_the_most_of_several(self):
        self.check(9, 6, splice(first_in=3), splice(first_in=9, second_in=4), splice(second_in=6))
        self.check(9, 6, splice(first_in=9, second_in=6), splice(first_in=3), splice(second_in=4))

    def test_the_same_one_twice(self):
        self.check(5, 6, splice(first_in=5, second_in=6), splice(first_in=5, second_in=6))

    def test_the_sums_do_not_matter(self):
        self.check(0, 0, sums=(9, 1, 6, 2))
        self.check(5, 0, splice(first_in=5), sums=(9, 1, 6, 2))


class SeeTest(unittest.TestCase):
    def see(self, footing, height=100, **more):
        vault = Vault(OPENING, **more)
        before = vault_fields(vault)
        footing.see(vault, height)
        self.assertEqual(vault_fields(vault), before)
        return footing_fields(footing)

    def test_sums_and_number_become_those_of_the_channel(self):
        found = self.see(footing_with(sums=(1, 1, 1, 1), taken=1), sums=(9, 1, 6, 2), splices=3)
        self.assertEqual(found, ((9, 1, 6, 2), 3, []))

    def test_the_number_has_changed(self):
        for taken, splices in ((0, 1), (0, 2), (3, 2)):
            with self.subTest(taken=taken):
                footing = footing_with(splice(until=1000), splice(until=100), taken=taken)
                self.assertEqual(self.see(footing, splices=splices), ((0, 0, 0, 0), splices, []))

    def test_the_number_has_not_changed(self):
        for taken in (0, 3):
            footing = footing_with(splice(until=100), splice(until=99), splice(until=101), taken=taken)
            expected = [splice(until=100), splice(until=101)]
            with self.subTest(taken=taken):
                self.assertEqual(self.see(footing, splices=taken), ((0, 0, 0, 0), taken, expected))

    def test_until_just_at_the_height_and_one_below(self):
        for height, kept in ((99, 1), (100, 1), (101, 0), (0, 1), (10 ** 12, 0)):
            with self.subTest(height=height):
                found = self.see(footing_with(splice(until=100)), height)
                self.assertEqual(len(found[2]), kept)

    def test_the_same_one_twice_stays_twice(self):
        found = self.see(footing_with(splice(1), splice(2), splice(1)))
        self.assertEqual(found[2], [splice(1), splice(2), splice(1)])

    def test_the_sums_alone_have_changed(self):
        found = self.see(footing_with(splice(1)), sums=(9, 1, 6, 2))
        self.assertEqual(found, ((9, 1, 6, 2), 0, [splice(1)]))

    def test_cover_behind_a_sight(self):
        footing = footing_with(splice(first_out=5))
        self.see(footing, sums=(0, 5, 0, 0), splices=1)
        self.assertEqual(footing.cover(), (-5, 0))
        footing = footing_with(splice(first_out=5), splice(first_out=9, until=99))
        self.see(footing)
        self.assertEqual(footing.cover(), (-5, 0))

    def test_a_published_state_does_not_matter(self):
        footing = footing_with(splice(1))
        self.assertEqual(self.see(footing, published=(7, 0, 40, 60, (), False), since=3)[2], [splice(1)])


class CopyFootingTest(unittest.TestCase):
    def full(self):
        return footing_with(splice(1), splice(2), splice(1), sums=(9, 1, 6, 2), taken=3)

    def test_a_copy_is_equal(self):
        footing = self.full()
        copied = copy_footing(footing)
        self.assertIsInstance(copied, Footing)
        self.assertIsNot(copied, footing)
        self.assertEqual(footing_fields(copied), footing_fields(self.full()))
        self.assertEqual(footing_fields(copy_footing(Footing())), footing_fields(Footing()))

    def test_a_copy_is_apart(self):
        for changes_copy in (True, False):
            footing = self.full()
            copied = copy_footing(footing)
            changed, other = (copied, footing) if changes_copy else (footing, copied)
            changed.splices.append(splice(3))
            changed.see(Vault(OPENING, splices=9, sums=(1, 1, 1, 1)), 100)
            with self.subTest(changes_copy=changes_copy):
                self.assertEqual(footing_fields(other), footing_fields(self.full()))


if __name__ == "__main__":
    unittest.main()
