"""Points 26 to 28: what a thing does, paying out, and who has a purse."""

import unittest

from tests.helpers import book_fields, thing, vault_fields
from turnpike.ledger.acts import carry_out
from turnpike.ledger.book import Book
from turnpike.ledger.reasons import reasons
from turnpike.ledger.vault import Vault
from turnpike.money.keys import key_of

MUCH = 10 ** 15
HEIGHT = 500
OPENING = (7, 1, 2, 40, 60, 10, 1000)
PURSES = ((9, 50), (1, 100), (2, 200))
KEY = key_of(5)
OTHER_KEY = key_of(6)


def plain(first, second, *locks, number=5, final=False):
    """Return a state of channel 7 with this free of the ends and these locks."""
    return (7, number, first, second, tuple(locks), final)


def splice(index=0, since=0, first_in=0, first_out=0, second_in=0, second_out=0):
    """Return the act of a splice."""
    return ("splice", (7, index, since, 1000, first_in, first_out, second_in, second_out))


def book_with(purses=PURSES, **more):
    """Return a book with these purses and a channel 7 with these fields."""
    book = Book(list(purses))
    book.vaults[7] = Vault(OPENING, **more)
    book.height = HEIGHT
    return book


class ActsTest(unittest.TestCase):
    def do(self, book, act, **more):
        """Do a thing that is ready, and check that no money comes or goes."""
        before = book.sum_of_money() + book.burnt
        wanted = thing(act, **more)
        self.assertEqual(reasons(book, wanted), [])
        carry_out(book, wanted)
        self.assertEqual(book.sum_of_money() + book.burnt, before)

    def check_purses(self, book, *purses):
        self.assertEqual(list(book.purses.items()), list(purses))


class EveryActTest(ActsTest):
    acts = (
        ("pay", 1, 3), ("open", (8, 1, 2, 30, 20, 10, 1000)), ("publish", plain(30, 70)), splice(), ("reveal", 5),
    )

    def test_the_fee_is_burnt(self):
        for act in self.acts:
            for fee in (0, 1, 6):
                with self.subTest(act=act, fee=fee):
                    book = book_with()
                    book.burnt = 11
                    self.do(book, act, fee=fee)
                    self.assertEqual(book.burnt, 11 + fee)
                    paid = 3 if act[0] == "pay" else 0
                    self.assertEqual(book.purse(9), 50 - fee - paid)

    def test_payer_and_tag_are_noted_behind_the_others(self):
        for act in self.acts:
            with self.subTest(act=act):
                book = book_with()
                book.done.extend([(9, 3), (1, 4)])
                self.do(book, act, tag=4)
                self.assertEqual(book.done, [(9, 3), (1, 4), (9, 4)])

    def test_height_and_receipts_stay(self):
        for act in self.acts[:-1]:
            with self.subTest(act=act):
                book = book_with()
                book.receipts[77] = 3
                self.do(book, act)
                self.assertEqual((book.height, book.receipts, book.ended), (HEIGHT, {77: 3}, []))

    def test_nothing_that_is_taken_makes_a_purse(self):
        for act in self.acts[1:]:
            with self.subTest(act=act):
                book = book_with(((1, 100), (2, 200)))
                self.do(book, act, payer=77, fee=0)
                self.assertNotIn(77, book.purses)
                self.assertEqual(book.done, [(77, 0)])

    def test_the_payer_pays_the_fee(self):
        book = book_with()
        self.do(book, ("reveal", 5), payer=2)
        self.check_purses(book, (9, 50), (1, 100), (2, 195))


class PayTest(ActsTest):
    def test_the_amount_goes_from_purse_to_purse(self):
        book = book_with()
        self.do(book, ("pay", 1, 12))
        self.check_purses(book, (9, 33), (1, 112), (2, 200))
        self.assertEqual(book.burnt, 5)

    def test_the_whole_purse(self):
        book = book_with()
        self.do(book, ("pay", 1, 45))
        self.check_purses(book, (9, 0), (1, 145), (2, 200))

    def test_to_oneself(self):
        book = book_with()
        self.do(book, ("pay", 9, 45))
        self.check_purses(book, (9, 45), (1, 100), (2, 200))

    def test_to_a_party_without_a_purse(self):
        for amount in (0, 7):
            with self.subTest(amount=amount):
                book = book_with()
                self.do(book, ("pay", 0, amount))
                self.check_purses(book, (9, 45 - amount), (1, 100), (2, 200), (0, amount))

    def test_nothing_to_oneself_makes_a_purse(self):
        book = book_with(())
        self.do(book, ("pay", 77, 0), payer=77, fee=0)
        self.check_purses(book, (77, 0))

    def test_nothing_to_another_makes_no_purse_of_the_payer(self):
        book = book_with(())
        self.do(book, ("pay", 78, 0), payer=77, fee=0)
        self.check_purses(book, (78, 0))

    def test_only_purses_change(self):
        book = book_with()
        before = book_fields(book_with())
        self.do(book, ("pay", 1, 12))
        self.assertEqual(book_fields(book)[1:4], before[1:4])


class OpenTest(ActsTest):
    def test_the_channel_is_behind_all_others(self):
        book = book_with()
        for number in (9, 3):
            self.do(book, ("open", (number, 1, 2, 30, 20, 4, 1000)), tag=number)
        self.assertEqual(list(book.vaults), [7, 9, 3])
        self.assertEqual(vault_fields(book.vaults[9]), ((9, 1, 2, 30, 20, 4, 1000), (0, 0, 0, 0), 0, 0, None, None, 50))
        self.assertEqual(vault_fields(book.vaults[7]), vault_fields(Vault(OPENING)))

    def test_what_leaves_which_purse(self):
        book = book_with()
        self.do(book, ("open", (8, 1, 2, 30, 20, 10, 1000)))
        self.check_purses(book, (9, 45), (1, 70), (2, 180))
        self.assertEqual(book.burnt, 5)

    def test_an_end_that_pays_the_fee(self):
        for payer, purses in ((1, ((9, 50), (1, 65), (2, 180))), (2, ((9, 50), (1, 70), (2, 175)))):
            with self.subTest(payer=payer):
                book = book_with()
                self.do(book, ("open", (8, 1, 2, 30, 20, 10, 1000)), payer=payer)
                self.check_purses(book, *purses)

    def test_the_second_party_may_be_the_lesser(self):
        book = book_with()
        self.do(book, ("open", (8, 2, 1, 30, 20, 10, 1000)))
        self.check_purses(book, (9, 45), (1, 80), (2, 170))

    def test_parties_that_put_in_nothing_get_no_purse(self):
        book = book_with(((9, 50),))
        self.do(book, ("open", (8, 1, 2, 0, 0, 10, 1000)))
        self.check_purses(book, (9, 45))
        self.assertEqual(book.vaults[8].money, 0)

    def test_empty_purses_stay(self):
        book = book_with(((9, 5), (1, 30), (2, 20)))
        self.do(book, ("open", (8, 1, 2, 30, 20, 10, 1000)))
        self.check_purses(book, (9, 0), (1, 0), (2, 0))


class PublishTest(ActsTest):
    def test_a_state_that_is_published_first(self):
        book = book_with()
        self.do(book, ("publish", plain(30, 70)))
        vault = book.vaults[7]
        self.assertEqual((vault.published, vault.since, vault.money), (plain(30, 70), HEIGHT, 100))
        self.check_purses(book, (9, 45), (1, 100), (2, 200))
        self.assertEqual(book.ended, [])

    def test_a_second_one_leaves_since(self):
        book = book_with(published=plain(20, 80, number=4), since=HEIGHT - 3)
        self.do(book, ("publish", plain(30, 70)))
        self.assertEqual((book.vaults[7].published, book.vaults[7].since), (plain(30, 70), HEIGHT - 3))

    def test_a_second_one_behind_height_zero(self):
        book = book_with(published=plain(20, 80, number=4), since=0)
        book.height = 10
        self.do(book, ("publish", plain(30, 70)))
        self.assertEqual(book.vaults[7].since, 0)

    def test_the_other_fields_stay(self):
        book = book_with(sums=(9, 0, 0, 4), splices=2, least=3)
        self.do(book, ("publish", plain(30, 70)))
        self.assertEqual(
            vault_fields(book.vaults[7]), (OPENING, (9, 0, 0, 4), 2, 3, plain(30, 70), HEIGHT, 105)
        )

    def test_a_final_state_pays_out_at_once(self):
        book = book_with()
        book.ended.append(5)
        self.do(book, ("publish", plain(30, 70, final=True)))
        self.assertEqual((list(book.vaults), book.ended), ([], [5, 7]))
        self.check_purses(book, (9, 45), (1, 130), (2, 270))

    def test_a_final_state_behind_another_one(self):
        book = book_with(published=plain(20, 80, number=4), since=HEIGHT)
        self.do(book, ("publish", plain(30, 70, final=True)))
        self.assertEqual((list(book.vaults), book.ended), ([], [7]))
        self.check_purses(book, (9, 45), (1, 130), (2, 270))

    def test_a_final_state_pays_with_the_sums(self):
        book = book_with(sums=(9, 1, 0, 4))
        self.do(book, ("publish", plain(30, 70, final=True)))
        self.check_purses(book, (9, 45), (1, 138), (2, 266))

    def test_a_state_that_is_not_final_pays_nothing(self):
        book = book_with()
        self.do(book, ("publish", plain(26, 70, (KEY, 4, 0, True))))
        self.assertIn(7, book.vaults)


class SettleTest(ActsTest):
    def settle(self, state, purses, receipts=None, **more):
        book = book_with(published=state, since=0, **more)
        book.receipts.update(receipts or {})
        book.ended.append(5)
        self.do(book, ("settle", 7), hands=())
        self.assertEqual((list(book.vaults), book.ended), ([], [5, 7]))
        self.check_purses(book, (9, 45), *purses)

    def test_no_locks(self):
        self.settle(plain(30, 70), ((1, 130), (2, 270)))
        self.settle(plain(0, 100), ((1, 100), (2, 300)))
        self.settle(plain(100, 0), ((1, 200), (2, 200)))

    def test_locks_of_both_ends_that_are_not_opened(self):
        self.settle(plain(30, 50, (KEY, 15, 9, True), (OTHER_KEY, 5, 9, False)), ((1, 145), (2, 255)))

    def test_locks_of_both_ends_that_are_opened(self):
        state = plain(30, 50, (KEY, 15, 9, True), (OTHER_KEY, 5, 9, False))
        self.settle(state, ((1, 130), (2, 270)), {KEY: 9})
        self.settle(state, ((1, 150), (2, 250)), {OTHER_KEY: 9})
        self.settle(state, ((1, 135), (2, 265)), {KEY: 0, OTHER_KEY: 9})
        self.settle(state, ((1, 145), (2, 255)), {KEY: 10, OTHER_KEY: 10})

    def test_the_sums(self):
        self.settle(plain(30, 70), ((1, 138), (2, 274)), sums=(9, 1, 6, 2))
        self.settle(plain(15, 70, (KEY, 15, 9, True)), ((1, 123), (2, 289)), {KEY: 3}, sums=(9, 1, 6, 2))

    def test_the_part_of_the_first_end_is_more_than_the_money(self):
        self.settle(plain(98, 2), ((1, 191), (2, 200)), sums=(0, 0, 0, 9))
        self.settle(plain(91, 9), ((1, 191), (2, 200)), sums=(0, 0, 0, 9))
        self.settle(plain(90, 10), ((1, 190), (2, 201)), sums=(0, 0, 0, 9))
        self.settle(plain(89, 0, (KEY, 11, 9, True)), ((1, 191), (2, 200)), sums=(0, 0, 0, 9))

    def test_the_other_channels_stay(self):
        book = book_with(published=plain(30, 70), since=0)
        book.vaults[3] = Vault((3, 1, 2, 1, 2, 3, 4))
        self.do(book, ("settle", 7))
        self.assertEqual(list(book.vaults), [3])
        self.assertEqual(vault_fields(book.vaults[3]), vault_fields(Vault((3, 1, 2, 1, 2, 3, 4))))

    def test_the_fee_is_paid_before_the_part_is_given(self):
        book = book_with(((1, 5),), published=plain(30, 70), since=0)
        self.do(book, ("settle", 7), payer=1)
        self.check_purses(book, (1, 30), (2, 70))


class SpliceTest(ActsTest):
    def check_vault(self, book, **more):
        self.assertEqual(vault_fields(book.vaults[7]), vault_fields(Vault(OPENING, **more)))

    def test_one_that_puts_in(self):
        book = book_with()
        self.do(book, splice(first_in=11, second_in=22))
        self.check_vault(book, sums=(11, 0, 22, 0), splices=1)
        self.check_purses(book, (9, 45), (1, 89), (2, 178))

    def test_one_that_takes_out(self):
        book = book_with()
        self.do(book, splice(first_out=13, second_out=24))
        self.check_vault(book, sums=(0, 13, 0, 24), splices=1)
        self.check_purses(book, (9, 45), (1, 113), (2, 224))

    def test_one_that_does_both(self):
        book = book_with()
        self.do(book, splice(first_in=1, first_out=20, second_in=30, second_out=4))
        self.check_vault(book, sums=(1, 20, 30, 4), splices=1)
        self.check_purses(book, (9, 45), (1, 119), (2, 174))

    def test_one_of_the_four_amounts(self):
        for name, money, first, second in (
            ("first_in", 107, 93, 200), ("first_out", 93, 107, 200), ("second_in", 107, 100, 193),
            ("second_out", 93, 100, 207),
        ):
            with self.subTest(name=name):
                book = book_with()
                self.do(book, splice(**{name: 7}))
                self.assertEqual(book.vaults[7].money, money)
                self.check_purses(book, (9, 45), (1, first), (2, second))

    def test_it_is_added_to_the_earlier_ones(self):
        book = book_with(sums=(5, 1, 2, 3), splices=2, least=4)
        self.do(book, splice(index=2, first_in=11, first_out=13, second_in=17, second_out=19))
        self.check_vault(book, sums=(16, 14, 19, 22), splices=3, least=4)

    def test_all_the_money_is_taken_out(self):
        book = book_with()
        self.do(book, splice(first_out=70, second_out=30))
        self.assertEqual(book.vaults[7].money, 0)
        self.check_purses(book, (9, 45), (1, 170), (2, 230))
        self.assertEqual(book.ended, [])

    def test_the_least_number(self):
        for least, since, expected in ((4, 5, 5), (4, 4, 4), (4, 3, 4), (0, 0, 0), (0, 9, 9), (9, 0, 9)):
            with self.subTest(least=least, since=since):
                book = book_with(least=least)
                self.do(book, splice(since=since))
                self.assertEqual(book.vaults[7].least, expected)

    def test_an_end_that_pays_the_fee(self):
        book = book_with()
        self.do(book, splice(first_in=11, second_out=3), payer=1)
        self.check_purses(book, (9, 50), (1, 84), (2, 203))

    def test_nothing_else_changes(self):
        book = book_with()
        book.vaults[3] = Vault((3, 1, 2, 1, 2, 3, 4))
        self.do(book, splice(first_in=11))
        self.assertEqual(list(book.vaults), [7, 3])
        self.assertEqual(vault_fields(book.vaults[3]), vault_fields(Vault((3, 1, 2, 1, 2, 3, 4))))
        self.assertEqual((book.vaults[7].published, book.vaults[7].since), (None, None))


class RevealTest(ActsTest):
    def test_a_receipt(self):
        book = book_with()
        book.receipts[77] = 3
        self.do(book, ("reveal", 5), hands=())
        self.assertEqual(list(book.receipts.items()), [(77, 3), (KEY, HEIGHT)])
        self.check_purses(book, (9, 45), (1, 100), (2, 200))

    def test_the_least_and_the_greatest_secret(self):
        for secret in (0, 4294967295):
            with self.subTest(secret=secret):
                book = book_with()
                self.do(book, ("reveal", secret))
                self.assertEqual(book.receipts, {key_of(secret): HEIGHT})

    def test_channels_stay(self):
        book = book_with(published=plain(26, 70, (KEY, 4, 600, True)), since=3)
        before = vault_fields(book.vaults[7])
        self.do(book, ("reveal", 5))
        self.assertEqual(vault_fields(book.vaults[7]), before)


class NewPursesTest(ActsTest):
    def test_the_second_end_gets_it_first(self):
        for act, more in (
            (("publish", plain(30, 70, final=True)), {}),
            (("settle", 7), {"published": plain(30, 70), "since": 0}),
            (splice(first_out=30, second_out=70), {}),
        ):
            with self.subTest(act=act):
                book = book_with(((9, 50),), **more)
                self.do(book, act)
                self.check_purses(book, (9, 45), (2, 70), (1, 30))

    def test_an_end_that_has_a_purse_keeps_its_place(self):
        for purses, expected in (
            (((1, 3), (9, 50)), ((1, 33), (9, 45), (2, 70))), (((2, 3), (9, 50)), ((2, 73), (9, 45), (1, 30))),
        ):
            with self.subTest(purses=purses):
                book = book_with(purses, published=plain(30, 70), since=0)
                self.do(book, ("settle", 7))
                self.check_purses(book, *expected)

    def test_an_end_that_gets_nothing_has_a_purse(self):
        for first, second in ((0, 100), (100, 0)):
            with self.subTest(first=first):
                book = book_with(((9, 50),), published=plain(first, second), since=0)
                self.do(book, ("settle", 7))
                self.check_purses(book, (9, 45), (2, second), (1, first))

    def test_ends_of_a_splice_that_takes_out_nothing(self):
        book = book_with(((9, 50), (2, 22)))
        self.do(book, splice(second_in=22))
        self.check_purses(book, (9, 45), (2, 0), (1, 0))

    def test_one_party_that_is_both_ends(self):
        book = Book([(9, 50), (4, 1)])
        book.vaults[7] = Vault((7, 3, 3, 40, 60, 10, 1000), published=plain(30, 70), since=0)
        book.height = HEIGHT
        self.do(book, ("settle", 7))
        self.check_purses(book, (9, 45), (4, 1), (3, 100))

    def test_a_splice_of_one_party_that_is_both_ends(self):
        book = Book([(3, 50)])
        book.vaults[7] = Vault((7, 3, 3, 40, 60, 10, 1000))
        self.do(book, splice(first_in=1, first_out=30, second_in=2, second_out=60), payer=3, hands=(3,))
        self.check_purses(book, (3, 132))
        self.assertEqual(book.vaults[7].money, 13)


if __name__ == "__main__":
    unittest.main()
