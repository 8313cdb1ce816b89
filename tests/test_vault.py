"""Points 22, 23 and 27: channels on the ledger, what is free, what fits, and what the ends get."""

import unittest

from turnpike.ledger.vault import Vault, copy_vault, fits, free_of, shares

MUCH = 10 ** 15
OPENING = (7, 1, 2, 40, 60, 10, 1000)
NAMES = ("opening", "sums", "splices", "least", "published", "since", "money")


def fields(vault):
    return {name: getattr(vault, name) for name in NAMES}


def plain(first, second, *locks):
    """Return a state of channel 7 with this free of the ends and these locks."""
    return (7, 5, first, second, tuple(locks), False)


class VaultTest(unittest.TestCase):
    def test_a_new_channel(self):
        self.assertEqual(fields(Vault(OPENING)), {
            "opening": OPENING, "sums": (0, 0, 0, 0), "splices": 0, "least": 0,
            "published": None, "since": None, "money": 100,
        })

    def test_a_channel_with_all(self):
        state = plain(40, 60)
        vault = Vault(OPENING, sums=(1000, 200, 30, 4), splices=2, least=5, published=state, since=77)
        self.assertEqual(fields(vault), {
            "opening": OPENING, "sums": (1000, 200, 30, 4), "splices": 2, "least": 5,
            "published": state, "since": 77, "money": 926,
        })

    def test_each_sum_in_the_money(self):
        for sums, money in (((9, 0, 0, 0), 109), ((0, 9, 0, 0), 91), ((0, 0, 9, 0), 109), ((0, 0, 0, 9), 91)):
            with self.subTest(sums=sums):
                self.assertEqual(Vault(OPENING, sums=sums).money, money)

    def test_great_amounts(self):
        opening = (7, 1, 2, MUCH, MUCH, 10, 1000)
        self.assertEqual(Vault(opening, sums=(MUCH, 0, MUCH, 0)).money, 4 * MUCH)
        self.assertEqual(Vault(opening, sums=(0, MUCH, 0, MUCH)).money, 0)

    def test_an_empty_channel(self):
        self.assertEqual(Vault((0, 0, 0, 0, 0, 0, 0)).money, 0)


class FreeOfTest(unittest.TestCase):
    def test_without_sums(self):
        self.assertEqual(free_of(Vault(OPENING), plain(40, 60)), (40, 60))
        self.assertEqual(free_of(Vault(OPENING), plain(30, -5, (1, 75, 9, True))), (30, -5))

    def test_each_sum(self):
        for sums, free in (
            ((9, 0, 0, 0), (49, 60)), ((0, 9, 0, 0), (31, 60)), ((0, 0, 9, 0), (40, 69)), ((0, 0, 0, 9), (40, 51)),
        ):
            with self.subTest(sums=sums):
                self.assertEqual(free_of(Vault(OPENING, sums=sums), plain(40, 60)), free)

    def test_all_sums(self):
        self.assertEqual(free_of(Vault(OPENING, sums=(1000, 200, 30, 4)), plain(40, 60)), (840, 86))

    def test_what_is_free_can_be_negative(self):
        self.assertEqual(free_of(Vault(OPENING, sums=(0, 50, 0, 70)), plain(40, 60)), (-10, -10))
        self.assertEqual(free_of(Vault(OPENING), plain(-3 * MUCH, 3 * MUCH)), (-3 * MUCH, 3 * MUCH))

    def test_a_pair_comes_back(self):
        self.assertIs(type(free_of(Vault(OPENING), plain(40, 60))), tuple)

    def test_the_published_state_does_not_matter(self):
        vault = Vault(OPENING, published=plain(10, 90), since=3)
        self.assertEqual(free_of(vault, plain(40, 60)), (40, 60))


class FitsTest(unittest.TestCase):
    def check(self, expected, state, **more):
        self.assertIs(fits(Vault(OPENING, **more), state), expected)

    def test_the_state_of_the_opening(self):
        self.check(True, (7, 0, 40, 60, (), False))

    def test_the_money(self):
        self.check(True, plain(100, 0))
        self.check(True, plain(0, 100))
        self.check(False, plain(40, 59))
        self.check(False, plain(40, 61))
        self.check(False, plain(39, 60))
        self.check(False, plain(41, 60))

    def test_the_locks_are_in_the_money(self):
        self.check(True, plain(30, 50, (1, 15, 9, True), (2, 5, 9, False)))
        self.check(False, plain(30, 50, (1, 15, 9, True), (2, 4, 9, False)))
        self.check(False, plain(30, 50, (1, 15, 9, True), (2, 6, 9, False)))
        self.check(False, plain(40, 60, (1, 1, 9, True)))
        self.check(True, plain(0, 0, (1, 100, 9, False)))

    def test_what_is_free_of_the_first_end(self):
        self.check(False, plain(-1, 101))
        self.check(False, plain(-1, 91, (1, 10, 9, True)))
        self.check(True, plain(-9, 109), sums=(9, 0, 0, 0))
        self.check(False, plain(-10, 110), sums=(9, 0, 0, 0))
        self.check(True, plain(9, 91), sums=(0, 9, 0, 0))
        self.check(False, plain(8, 92), sums=(0, 9, 0, 0))
        self.check(False, plain(-1, 101), sums=(0, 0, 9, 0))

    def test_what_is_free_of_the_second_end(self):
        self.check(False, plain(101, -1))
        self.check(False, plain(91, -1, (1, 10, 9, False)))
        self.check(True, plain(109, -9), sums=(0, 0, 9, 0))
        self.check(False, plain(110, -10), sums=(0, 0, 9, 0))
        self.check(True, plain(91, 9), sums=(0, 0, 0, 9))
        self.check(False, plain(92, 8), sums=(0, 0, 0, 9))
        self.check(False, plain(101, -1), sums=(9, 0, 0, 0))

    def test_the_sums_are_not_in_the_money(self):
        self.check(True, plain(40, 60), sums=(5, 0, 0, 3))
        self.check(False, plain(45, 57), sums=(5, 0, 0, 3))

    def test_number_and_final_do_not_matter(self):
        self.check(True, (7, 0, 40, 60, (), True), least=9)
        self.check(True, (7, 4294967295, 0, 60, ((1, 40, 9, True),), True))

    def test_a_published_state_does_not_matter(self):
        self.check(True, plain(40, 60), published=plain(100, 0), since=3)
        self.check(False, plain(40, 61), published=plain(100, 0), since=3)


class SharesTest(unittest.TestCase):
    def check(self, expected, state, receipts, **more):
        found = shares(Vault(OPENING, published=state, since=3, **more), receipts)
        self.assertEqual(found, expected)
        self.assertIs(type(found), tuple)

    def test_no_locks(self):
        self.check((30, 70), plain(30, 70), {})
        self.check((0, 100), plain(0, 100), {})
        self.check((100, 0), plain(100, 0), {})

    def test_locks_that_are_not_opened(self):
        self.check((45, 55), plain(30, 50, (1, 15, 9, True), (2, 5, 9, False)), {})

    def test_locks_that_are_opened(self):
        state = plain(30, 50, (1, 15, 9, True), (2, 5, 9, False))
        self.check((30, 70), state, {1: 9})
        self.check((50, 50), state, {2: 9})
        self.check((35, 65), state, {1: 0, 2: 0})
        self.check((45, 55), state, {1: 10, 2: 10})

    def test_the_sums(self):
        self.check((39, 70), plain(30, 70), {}, sums=(9, 0, 0, 0))
        self.check((21, 70), plain(30, 70), {}, sums=(0, 9, 0, 0))
        self.check((30, 79), plain(30, 70), {}, sums=(0, 0, 9, 0))
        self.check((30, 61), plain(30, 70), {}, sums=(0, 0, 0, 9))
        self.check((830, 96), plain(30, 70), {}, sums=(1000, 200, 30, 4))

    def test_sums_and_locks(self):
        state = plain(30, 50, (1, 15, 9, True), (2, 5, 9, False))
        self.check((34, 69), state, {1: 1}, sums=(5, 1, 0, 1))
        self.check((54, 49), state, {2: 1}, sums=(5, 1, 0, 1))

    def test_the_first_end_gets_at_most_the_money(self):
        self.check((91, 0), plain(100, 0), {}, sums=(0, 0, 0, 9))
        self.check((91, 0), plain(92, 8), {}, sums=(0, 0, 0, 9))
        self.check((91, 0), plain(91, 9), {}, sums=(0, 0, 0, 9))
        self.check((90, 1), plain(90, 10), {}, sums=(0, 0, 0, 9))
        self.check((100, 0), plain(900, 0), {})
        self.check((100, 0), plain(95, 0, (1, 6, 9, True)), {})
        self.check((95, 5), plain(95, 0, (1, 6, 9, True)), {1: 1})

    def test_the_second_end_gets_the_rest(self):
        self.check((30, 70), plain(30, 900), {})
        self.check((30, 70), plain(30, 0), {})

    def test_the_money_that_is_in_the_channel_now(self):
        vault = Vault(OPENING, published=plain(30, 70), since=3)
        vault.money = 20
        self.assertEqual(shares(vault, {}), (20, 0))
        vault.money = 150
        self.assertEqual(shares(vault, {}), (30, 120))

    def test_nothing_is_changed(self):
        receipts = {2: 9, 1: 4}
        vault = Vault(OPENING, published=plain(30, 50, (1, 20, 9, True)), since=3)
        before = fields(vault)
        shares(vault, receipts)
        self.assertEqual(fields(vault), before)
        self.assertEqual(list(receipts.items()), [(2, 9), (1, 4)])


class CopyVaultTest(unittest.TestCase):
    def test_a_new_channel(self):
        self.assertEqual(fields(copy_vault(Vault(OPENING))), fields(Vault(OPENING)))

    def test_a_channel_with_all(self):
        vault = Vault(OPENING, sums=(1000, 200, 30, 4), splices=2, least=5, published=plain(40, 60), since=77)
        copied = copy_vault(vault)
        self.assertIsInstance(copied, Vault)
        self.assertIsNot(copied, vault)
        self.assertEqual(fields(copied), fields(vault))

    def test_changed_money_is_copied(self):
        vault = Vault(OPENING)
        vault.money = 5
        self.assertEqual(copy_vault(vault).money, 5)

    def test_the_copy_is_apart(self):
        others = {
            "opening": (8, 3, 4, 1, 1, 1, 1), "sums": (1, 1, 1, 1), "splices": 9, "least": 9,
            "published": plain(1, 99), "since": 9, "money": 9,
        }
        for name in NAMES:
            vault = Vault(OPENING, sums=(1000, 200, 30, 4), splices=2, least=5, published=plain(40, 60), since=77)
            before = fields(vault)
            copied = copy_vault(vault)
            setattr(copied, name, others[name])
            with self.subTest(name=name):
                self.assertEqual(fields(vault), before)
            setattr(vault, name, None)
            with self.subTest(name=name):
                self.assertEqual(getattr(copied, name), others[name])


if __name__ == "__main__":
    unittest.main()
