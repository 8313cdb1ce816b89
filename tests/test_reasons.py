"""Points 24 and 25: what a thing takes, and the reasons against it."""

import unittest

from tests.helpers import book_fields, thing
from turnpike.ledger.book import Book
from turnpike.ledger.reasons import reasons, takes
from turnpike.ledger.vault import Vault
from turnpike.money.keys import key_of

MUCH = 10 ** 15
HEIGHT = 500
OPENING = (7, 1, 2, 40, 60, 10, 1000)
NEW_OPENING = (8, 1, 2, 30, 20, 10, 1000)
KEY = key_of(5)
OPENED = (KEY, 4, 600, True)
PAYER = 9


def plain(first, second, *locks, number=5, final=False):
    """Return a state of channel 7 with this free of the ends and these locks."""
    return (7, number, first, second, tuple(locks), final)


def splice(channel=7, index=0, until=1000, first_in=0, first_out=0, second_in=0, second_out=0):
    """Return the act of a splice."""
    return ("splice", (channel, index, 0, until, first_in, first_out, second_in, second_out))


def book_with(purses=((PAYER, 50), (1, 100), (2, 200)), height=HEIGHT, **more):
    """Return a book with these purses and a channel 7 with these fields."""
    book = Book(list(purses))
    book.vaults[7] = Vault(OPENING, **more)
    book.height = height
    return book


class TakesTest(unittest.TestCase):
    def check(self, expected, book, wanted):
        found = takes(book, wanted)
        self.assertIs(type(found), dict)
        self.assertEqual({party: amount for party, amount in found.items() if amount != 0}, expected)

    def test_the_fee_alone(self):
        for act in (("publish", plain(40, 60)), ("settle", 7), ("settle", 8), ("reveal", 5)):
            with self.subTest(act=act):
                self.check({9: 5}, book_with(), thing(act))
                self.check({}, book_with(), thing(act, fee=0))

    def test_pay(self):
        self.check({9: 17}, book_with(), thing(("pay", 1, 12)))
        self.check({9: 17}, book_with(), thing(("pay", 9, 12)))
        self.check({9: 5}, book_with(), thing(("pay", 1, 0)))
        self.check({9: 2 * MUCH}, book_with(), thing(("pay", 1, MUCH), fee=MUCH))

    def test_open(self):
        self.check({9: 5, 1: 30, 2: 20}, book_with(), thing(("open", NEW_OPENING)))
        self.check({9: 5, 1: 40, 2: 60}, book_with(), thing(("open", OPENING)))
        self.check({9: 5, 2: 20}, book_with(), thing(("open", (8, 1, 2, 0, 20, 10, 1000))))

    def test_open_where_one_party_pays_several_parts(self):
        self.check({1: 35, 2: 20}, book_with(), thing(("open", NEW_OPENING), payer=1))
        self.check({1: 30, 2: 25}, book_with(), thing(("open", NEW_OPENING), payer=2))
        self.check({9: 5, 1: 50}, book_with(), thing(("open", (8, 1, 1, 30, 20, 10, 1000))))
        self.check({1: 55}, book_with(), thing(("open", (8, 1, 1, 30, 20, 10, 1000)), payer=1))

    def test_splice(self):
        self.check({9: 5, 1: 11, 2: 22}, book_with(), thing(splice(first_in=11, second_in=22)))
        self.check({9: 5, 2: 22}, book_with(), thing(splice(first_out=11, second_in=22)))
        self.check({9: 5}, book_with(), thing(splice(first_out=11, second_out=22)))

    def test_splice_where_one_party_pays_several_parts(self):
        self.check({1: 16, 2: 22}, book_with(), thing(splice(first_in=11, second_in=22), payer=1))
        self.check({1: 11, 2: 27}, book_with(), thing(splice(first_in=11, second_in=22), payer=2))

    def test_splice_of_a_channel_that_is_not_there(self):
        self.check({9: 5}, book_with(), thing(splice(channel=8, first_in=11, second_in=22)))
        book = book_with()
        book.ended.append(8)
        self.check({9: 5}, book, thing(splice(channel=8, first_in=11, second_in=22)))

    def test_the_ends_are_those_of_the_channel(self):
        book = book_with()
        book.vaults[8] = Vault((8, 4, 3, 0, 0, 10, 1000))
        self.check({9: 5, 4: 11, 3: 22}, book, thing(splice(channel=8, first_in=11, second_in=22)))

    def test_the_dict_is_new_and_nothing_is_changed(self):
        book = book_with()
        takes(book, thing(("pay", 3, 12)))[9] = 1000
        self.check({9: 17}, book, thing(("pay", 3, 12)))
        self.assertEqual(list(book.purses.items()), [(9, 50), (1, 100), (2, 200)])


class ReasonsTest(unittest.TestCase):
    def check(self, expected, book, act, **more):
        found = reasons(book, thing(act, **more))
        self.assertIs(type(found), list)
        self.assertEqual(found, expected)

    def check_done(self, act, *others):
        book = book_with()
        book.done.extend([(9, 1), (8, 0), (0, 9), (5, 5)])
        self.check(list(others), book, act)
        self.check(["done", *others], book, act, tag=1)
        self.check(["done", *others], book, act, fee=0, hands=(2, 1), tag=1)


class EveryActTest(ReasonsTest):
    acts = (
        ("pay", 1, 3), ("open", NEW_OPENING), ("publish", plain(30, 70)), splice(), ("reveal", 5),
    )

    def test_ready(self):
        for act in self.acts:
            with self.subTest(act=act):
                self.check([], book_with(), act)

    def test_settle_is_ready(self):
        self.check([], book_with(published=plain(30, 70), since=489), ("settle", 7))

    def test_done(self):
        for act in self.acts:
            with self.subTest(act=act):
                self.check_done(act)
        self.check_done(("settle", 7), "not published")
        self.check_done(("settle", 8), "no channel")

    def test_the_payer_of_a_done_thing_matters(self):
        book = book_with()
        book.done.extend([(1, 0), (9, 9)])
        for act in self.acts:
            with self.subTest(act=act):
                self.check([], book, act)

    def test_the_fee_and_the_purse(self):
        for act in (("open", NEW_OPENING), ("publish", plain(30, 70)), splice(), ("reveal", 5)):
            with self.subTest(act=act):
                self.check([], book_with(), act, fee=50)
                self.check(["purse"], book_with(), act, fee=51)

    def test_a_payer_without_a_purse(self):
        for act in (("open", NEW_OPENING), ("publish", plain(30, 70)), splice(), ("reveal", 5)):
            with self.subTest(act=act):
                self.check([], book_with(), act, payer=77, fee=0)
                self.check(["purse"], book_with(), act, payer=77, fee=1)

    def test_the_hand_of_the_payer_is_not_asked_for(self):
        self.check([], book_with(), ("pay", 1, 3), hands=())
        self.check([], book_with(), ("reveal", 5), hands=())
        self.check([], book_with(published=plain(30, 70), since=0), ("settle", 7), hands=())


class PayTest(ReasonsTest):
    def test_the_purse(self):
        self.check([], book_with(), ("pay", 1, 45))
        self.check(["purse"], book_with(), ("pay", 1, 46))

    def test_to_oneself_and_to_nobody(self):
        self.check([], book_with(), ("pay", 9, 45))
        self.check(["purse"], book_with(), ("pay", 9, 46))
        self.check([], book_with(), ("pay", 77, 0))

    def test_several_rows(self):
        book = book_with()
        book.done.append((9, 0))
        self.check(["done", "purse"], book, ("pay", 1, 46), hands=())


class OpenTest(ReasonsTest):
    def test_one_party(self):
        self.check(["one party"], book_with(), ("open", (8, 1, 1, 30, 20, 10, 1000)))
        self.check([], book_with(), ("open", (8, 1, 2, 20, 20, 10, 1000)))
        self.check([], book_with(), ("open", (8, 2, 1, 20, 20, 10, 1000)))

    def test_late(self):
        self.check([], book_with(), ("open", (8, 1, 2, 30, 20, 10, HEIGHT)))
        self.check(["late"], book_with(), ("open", (8, 1, 2, 30, 20, 10, HEIGHT - 1)))
        self.check([], book_with(height=0), ("open", (8, 1, 2, 30, 20, 10, 0)))

    def test_hands(self):
        for hands in ((1, 2), (2, 1), (3, 2, 9, 1), (1, 1, 2, 2)):
            with self.subTest(hands=hands):
                self.check([], book_with(), ("open", NEW_OPENING), hands=hands)
        for hands in ((), (1,), (2,), (1, 1), (2, 2), (9, 1), (3, 2, 9)):
            with self.subTest(hands=hands):
                self.check(["hands"], book_with(), ("open", NEW_OPENING), hands=hands)

    def test_the_hand_of_the_payer_does_not_help(self):
        self.check(["hands"], book_with(), ("open", NEW_OPENING), hands=(1,), payer=2)

    def test_stands(self):
        self.check(["stands"], book_with(), ("open", OPENING))
        self.check(["stands"], book_with(), ("open", (7, 1, 2, 0, 0, 0, 1000)))

    def test_gone(self):
        book = book_with()
        book.ended.extend([5, 8])
        self.check(["gone"], book, ("open", NEW_OPENING))
        self.check([], book, ("open", (9, 1, 2, 30, 20, 10, 1000)))

    def test_the_purse(self):
        for purses, words in (
            (((9, 5), (1, 30), (2, 20)), []), (((9, 4), (1, 30), (2, 20)), ["purse"]),
            (((9, 5), (1, 29), (2, 20)), ["purse"]), (((9, 5), (1, 30), (2, 19)), ["purse"]),
            (((9, 5), (1, 30)), ["purse"]), (((9, 0), (1, 0), (2, 0)), ["purse"]), ((), ["purse"]),
        ):
            with self.subTest(purses=purses):
                self.check(words, book_with(purses), ("open", NEW_OPENING))

    def test_the_purse_of_a_party_that_pays_several_parts(self):
        self.check([], book_with(((1, 35), (2, 20))), ("open", NEW_OPENING), payer=1)
        self.check(["purse"], book_with(((1, 34), (2, 20))), ("open", NEW_OPENING), payer=1)
        self.check([], book_with(((1, 30), (2, 25))), ("open", NEW_OPENING), payer=2)
        self.check(["purse"], book_with(((1, 30), (2, 24))), ("open", NEW_OPENING), payer=2)
        one = ("open", (8, 1, 1, 30, 20, 10, 1000))
        self.check(["one party"], book_with(((1, 55),)), one, payer=1, hands=(1,))
        self.check(["one party", "purse"], book_with(((1, 54),)), one, payer=1, hands=(1,))

    def test_a_party_that_puts_in_nothing_needs_no_purse(self):
        self.check([], book_with(((9, 5), (2, 20))), ("open", (8, 1, 2, 0, 20, 10, 1000)))

    def test_all_rows(self):
        book = book_with(())
        book.done.append((9, 0))
        book.ended.append(7)
        words = ["done", "one party", "late", "hands", "stands", "gone", "purse"]
        self.check(words, book, ("open", (7, 1, 1, 30, 20, 10, HEIGHT - 1)), hands=(2,))

    def test_the_rows_of_other_acts_do_not_apply(self):
        book = book_with(published=plain(30, 70), since=HEIGHT)
        book.receipts[KEY] = 3
        self.check([], book, ("open", NEW_OPENING))


class NoChannelTest(ReasonsTest):
    def test_no_row_applies_but_the_last_one(self):
        late = splice(channel=8, index=3, until=0, first_in=MUCH, first_out=MUCH, second_out=MUCH)
        for act in (("publish", (8, 0, -1, 900, ((KEY, 1, 1, True),), True)), ("settle", 8), late):
            with self.subTest(act=act):
                self.check(["no channel"], book_with(), act, hands=())
                self.check(["no channel", "purse"], book_with(), act, hands=(), fee=51)
                book = book_with()
                book.done.append((9, 0))
                book.ended.append(8)
                self.check(["done", "no channel"], book, act)
                self.check(["done", "no channel", "purse"], book, act, hands=(), fee=51)

    def test_a_channel_that_stands(self):
        for act in (("publish", plain(30, 70)), splice()):
            with self.subTest(act=act):
                self.check([], book_with(), act)


class PublishTest(ReasonsTest):
    def publish(self, expected, state, hands=(1, 2), **more):
        self.check(expected, book_with(**more), ("publish", state), hands=hands)

    def test_hands(self):
        for hands in ((1, 2), (2, 1), (3, 2, 9, 1)):
            with self.subTest(hands=hands):
                self.publish([], plain(30, 70), hands=hands)
        for hands in ((), (1,), (2,), (1, 1, 9), (2, 3)):
            with self.subTest(hands=hands):
                self.publish(["hands"], plain(30, 70), hands=hands)

    def test_the_state_of_the_opening_needs_no_hands(self):
        for hands in ((), (1,), (2,), (9,), (1, 2)):
            with self.subTest(hands=hands):
                self.publish([], plain(40, 60, number=0), hands=hands)

    def test_any_other_state_needs_hands(self):
        for state in (
            plain(40, 60, number=1), plain(41, 59, number=0), plain(40, 60, number=0, final=True),
            plain(39, 60, (KEY, 1, 600, True), number=0),
        ):
            with self.subTest(state=state):
                self.publish(["hands"], state, hands=())
                self.publish([], state)

    def test_the_state_of_the_opening_can_have_other_reasons(self):
        opening = plain(40, 60, number=0)
        self.publish(["below least"], opening, hands=(), least=1)
        self.publish(["does not fit"], opening, hands=(), sums=(0, 41, 0, 0))
        self.publish(["not newer"], opening, hands=(), published=opening, since=HEIGHT)

    def test_the_hands_are_those_of_the_ends_of_the_channel(self):
        book = book_with()
        book.vaults[8] = Vault((8, 4, 3, 10, 10, 10, 1000))
        self.check(["hands"], book, ("publish", (8, 1, 10, 10, (), False)))
        self.check([], book, ("publish", (8, 1, 10, 10, (), False)), hands=(3, 4))

    def test_below_least(self):
        self.publish([], plain(30, 70), least=5)
        self.publish(["below least"], plain(30, 70), least=6)
        self.publish([], plain(30, 70), least=0)

    def test_does_not_fit(self):
        self.publish(["does not fit"], plain(30, 71))
        self.publish(["does not fit"], plain(30, 69))
        self.publish([], plain(0, 100))
        self.publish(["does not fit"], plain(-1, 101))
        self.publish([], plain(100, 0))
        self.publish(["does not fit"], plain(101, -1))
        self.publish([], plain(26, 70, (KEY, 4, 600, True)))
        self.publish(["does not fit"], plain(26, 70, (KEY, 5, 600, True)))

    def test_fits_with_the_sums(self):
        self.publish([], plain(-9, 109), sums=(9, 0, 0, 0))
        self.publish(["does not fit"], plain(-10, 110), sums=(9, 0, 0, 0))
        self.publish([], plain(91, 9), sums=(0, 0, 0, 9))
        self.publish(["does not fit"], plain(92, 8), sums=(0, 0, 0, 9))

    def test_final_with_locks(self):
        self.publish([], plain(30, 70, final=True))
        self.publish([], plain(26, 70, (KEY, 4, 600, True)))
        self.publish(["final with locks"], plain(26, 70, (KEY, 4, 600, True), final=True))
        self.publish(["final with locks"], plain(26, 70, (KEY, 4, 0, False), final=True))
        self.publish(["final with locks"], plain(30, 70, (KEY, 0, 0, False), final=True))

    def test_not_newer(self):
        for number, words in ((4, []), (5, ["not newer"]), (6, ["not newer"]), (0, [])):
            with self.subTest(number=number):
                self.publish(words, plain(30, 70), published=plain(20, 80, number=number), since=HEIGHT)

    def test_the_same_state_is_not_newer(self):
        self.publish(["not newer"], plain(30, 70), published=plain(30, 70), since=HEIGHT)

    def test_over(self):
        old = plain(20, 80, number=4)
        self.publish([], plain(30, 70), published=old, since=HEIGHT)
        self.publish([], plain(30, 70), published=old, since=HEIGHT - 10)
        self.publish(["over"], plain(30, 70), published=old, since=HEIGHT - 11)

    def test_the_delay_of_the_opening(self):
        for delay in (0, 3):
            with self.subTest(delay=delay):
                book = book_with()
                book.vaults[8] = Vault((8, 1, 2, 40, 60, delay, 9), published=(8, 1, 40, 60, (), False), since=HEIGHT)
                act = ("publish", (8, 2, 40, 60, (), False))
                book.height = HEIGHT + delay
                self.check([], book, act)
                book.height = HEIGHT + delay + 1
                self.check(["over"], book, act)

    def test_a_final_state_as_any_other(self):
        old = plain(20, 80, number=5)
        self.publish(["not newer", "over"], plain(30, 70, final=True), published=old, since=HEIGHT - 11)

    def test_the_opening_is_not_late(self):
        self.check([], book_with(height=1001), ("publish", plain(30, 70)))

    def test_all_rows(self):
        lock = (KEY, 4, 600, True)
        book = book_with(((9, 4),), least=6, published=plain(20, 80, number=5), since=HEIGHT - 11)
        book.done.append((9, 0))
        words = ["done", "hands", "below least", "does not fit", "final with locks", "not newer", "over", "purse"]
        self.check(words, book, ("publish", plain(30, 70, lock, final=True)), hands=(1,))

    def test_some_rows_in_order(self):
        self.publish(["below least", "final with locks"], plain(26, 70, (KEY, 4, 1, True), final=True), least=6)
        self.publish(["hands", "does not fit"], plain(30, 71), hands=())
        self.publish(["below least", "over"], plain(30, 70), least=6, published=plain(20, 80, number=4), since=0)


class SettleTest(ReasonsTest):
    def settle(self, expected, state, since=HEIGHT - 11, height=HEIGHT, receipts=None):
        book = book_with(published=state, since=since, height=height)
        book.receipts.update(receipts or {})
        self.check(expected, book, ("settle", 7), hands=())

    def test_not_published(self):
        self.check(["not published"], book_with(), ("settle", 7))
        self.check(["not published"], book_with(height=0), ("settle", 7))
        self.check(["not published", "purse"], book_with(), ("settle", 7), fee=51)

    def test_runs(self):
        self.settle([], plain(30, 70), since=HEIGHT - 11)
        self.settle(["runs"], plain(30, 70), since=HEIGHT - 10)
        self.settle(["runs"], plain(30, 70), since=HEIGHT)

    def test_the_delay_of_the_opening(self):
        for delay in (0, 3):
            with self.subTest(delay=delay):
                book = book_with()
                book.vaults[8] = Vault((8, 1, 2, 40, 60, delay, 9), published=(8, 1, 40, 60, (), False), since=HEIGHT)
                book.height = HEIGHT + delay
                self.check(["runs"], book, ("settle", 8))
                book.height = HEIGHT + delay + 1
                self.check([], book, ("settle", 8))

    def test_undecided(self):
        for from_first in (True, False):
            with self.subTest(from_first=from_first):
                self.settle(["undecided"], plain(26, 70, (KEY, 4, HEIGHT + 1, from_first)))
                self.settle(["undecided"], plain(26, 70, (KEY, 4, HEIGHT, from_first)))
                self.settle([], plain(26, 70, (KEY, 4, HEIGHT - 1, from_first)))

    def test_an_opened_lock_is_decided(self):
        state = plain(26, 70, (KEY, 4, HEIGHT, True))
        self.settle([], state, receipts={KEY: HEIGHT})
        self.settle([], state, receipts={KEY: 0})
        self.settle(["undecided"], state, receipts={KEY: HEIGHT + 1})
        self.settle(["undecided"], state, receipts={KEY + 1: 3})

    def test_several_locks(self):
        opened = (KEY, 4, 600, True)
        over = (77, 4, HEIGHT - 1, True)
        runs = (77, 4, HEIGHT, False)
        receipts = {KEY: 3}
        self.settle([], plain(22, 70, opened, over), receipts=receipts)
        self.settle(["undecided"], plain(18, 70, opened, over, runs), receipts=receipts)
        self.settle(["undecided"], plain(18, 70, runs, opened, over), receipts=receipts)
        self.settle(["undecided"], plain(22, 70, runs, runs), receipts=receipts)

    def test_both(self):
        self.settle(["runs", "undecided"], plain(26, 70, (KEY, 4, HEIGHT, True)), since=HEIGHT)

    def test_all_rows(self):
        book = book_with(((9, 4),), published=plain(26, 70, (KEY, 4, HEIGHT, True)), since=HEIGHT)
        book.done.append((9, 0))
        self.check(["done", "runs", "undecided", "purse"], book, ("settle", 7))

    def test_rows_of_other_acts_do_not_apply(self):
        book = book_with(published=plain(90, 70, number=0), since=0, least=9)
        book.ended.append(7)
        book.height = 2000
        self.check([], book, ("settle", 7), hands=())


class SpliceTest(ReasonsTest):
    def splice(self, expected, hands=(1, 2), fields=None, purses=((PAYER, 50), (1, MUCH), (2, MUCH)), **more):
        self.check(expected, book_with(purses, **(fields or {})), splice(**more), hands=hands)

    def test_hands(self):
        for hands in ((1, 2), (2, 1), (3, 2, 9, 1)):
            with self.subTest(hands=hands):
                self.splice([], hands=hands)
        for hands in ((), (1,), (2,), (1, 1, 9), (2, 3)):
            with self.subTest(hands=hands):
                self.splice(["hands"], hands=hands)

    def test_index(self):
        for taken in (0, 1, 5):
            for index in (0, 1, 4, 5, 6):
                with self.subTest(taken=taken, index=index):
                    self.splice([] if taken == index else ["index"], fields={"splices": taken}, index=index)

    def test_late(self):
        self.splice([], until=HEIGHT)
        self.splice(["late"], until=HEIGHT - 1)

    def test_since_does_not_matter(self):
        act = ("splice", (7, 0, 4294967295, 1000, 0, 0, 0, 0))
        self.check([], book_with(), act)

    def test_not_enough(self):
        self.splice([], first_out=100)
        self.splice(["not enough"], first_out=101)
        self.splice([], second_out=100)
        self.splice(["not enough"], second_out=101)
        self.splice([], first_out=70, second_out=30)
        self.splice(["not enough"], first_out=70, second_out=31)

    def test_what_is_put_in_can_be_taken_out(self):
        self.splice([], first_in=7, second_out=107)
        self.splice(["not enough"], first_in=7, second_out=108)
        self.splice([], second_in=7, first_out=107)
        self.splice(["not enough"], second_in=7, first_out=108)
        self.splice([], first_in=7, second_in=8, first_out=100, second_out=15)
        self.splice(["not enough"], first_in=7, second_in=8, first_out=100, second_out=16)

    def test_enough_is_asked_of_the_money_in_the_channel(self):
        for sums, money in (((9, 0, 0, 0), 109), ((0, 9, 0, 0), 91), ((0, 0, 9, 0), 109), ((0, 0, 0, 9), 91)):
            with self.subTest(sums=sums):
                self.splice([], fields={"sums": sums}, first_out=money)
                self.splice(["not enough"], fields={"sums": sums}, second_out=money + 1)

    def test_too_much(self):
        for sums, name in (
            ((MUCH - 5, 0, 0, 0), "first_in"), ((MUCH, MUCH - 5, 0, 0), "first_out"),
            ((0, 0, MUCH - 5, 0), "second_in"), ((0, 0, MUCH, MUCH - 5), "second_out"),
        ):
            with self.subTest(name=name):
                self.splice([], fields={"sums": sums}, **{name: 5})
                self.splice(["too much"], fields={"sums": sums}, **{name: 6})

    def test_the_sums_are_asked_one_by_one(self):
        self.splice([], fields={"sums": (MUCH, MUCH, MUCH, MUCH)})
        self.splice([], fields={"sums": (0, 0, MUCH, 0)}, first_in=MUCH)
        self.splice(["too much"], fields={"sums": (1, 0, 0, 0)}, first_in=MUCH)

    def test_several_sums_that_are_too_much_are_told_once(self):
        self.splice(["too much"], fields={"sums": (MUCH, 0, MUCH, 0)}, first_in=1, second_in=1)

    def test_published(self):
        self.splice(["published"], fields={"published": plain(30, 70), "since": HEIGHT})
        self.splice(["published"], fields={"published": plain(40, 60, number=0), "since": 0})

    def test_the_purse(self):
        for purses, words in (
            (((9, 5), (1, 30), (2, 20)), []), (((9, 4), (1, 30), (2, 20)), ["purse"]),
            (((9, 5), (1, 29), (2, 20)), ["purse"]), (((9, 5), (1, 30), (2, 19)), ["purse"]), ((), ["purse"]),
        ):
            with self.subTest(purses=purses):
                self.splice(words, purses=purses, first_in=30, second_in=20)

    def test_what_is_taken_out_does_not_help_the_purse(self):
        self.splice(["purse"], purses=((9, 5), (1, 29)), first_in=30, first_out=100)
        self.splice(["purse"], purses=((9, 4), (1, 29)), first_out=100)

    def test_all_rows(self):
        book = book_with((), sums=(0, 1, 0, 0), splices=1, published=plain(30, 70), since=HEIGHT)
        book.done.append((9, 0))
        words = ["done", "hands", "index", "late", "not enough", "too much", "published", "purse"]
        self.check(words, book, splice(until=HEIGHT - 1, first_out=MUCH), hands=(1,))

    def test_some_rows_in_order(self):
        self.splice(["index", "not enough"], index=3, first_out=101)
        self.splice(["hands", "late"], hands=(), until=0)
        self.splice(["late", "published"], until=0, fields={"published": plain(30, 70), "since": HEIGHT})

    def test_rows_of_other_acts_do_not_apply(self):
        book = book_with(least=9)
        book.ended.append(7)
        self.check([], book, splice())


class RevealTest(ReasonsTest):
    def test_shown(self):
        book = book_with()
        book.receipts[KEY] = HEIGHT
        self.check(["shown"], book, ("reveal", 5))
        self.check([], book, ("reveal", 6))
        self.check([], book, ("reveal", 4))

    def test_a_receipt_with_the_secret_as_its_key(self):
        book = book_with()
        book.receipts[5] = HEIGHT
        self.check([], book, ("reveal", 5))

    def test_the_least_and_the_greatest_secret(self):
        for secret in (0, 4294967295):
            with self.subTest(secret=secret):
                book = book_with()
                self.check([], book, ("reveal", secret))
                book.receipts[key_of(secret)] = 0
                self.check(["shown"], book, ("reveal", secret))

    def test_all_rows(self):
        book = book_with(())
        book.receipts[KEY] = 0
        book.done.append((9, 0))
        self.check(["done", "shown", "purse"], book, ("reveal", 5), hands=())


class AskingTest(unittest.TestCase):
    def test_nothing_is_changed(self):
        book = book_with(published=plain(26, 70, OPENED, number=4), since=HEIGHT, sums=(3, 2, 1, 0), splices=2, least=1)
        book.receipts[KEY] = 3
        book.ended.append(8)
        book.done.append((9, 0))
        before = book_fields(book)
        for act in (
            ("pay", 77, 3), ("open", (8, 55, 66, 1, 1, 1, 1)), ("publish", plain(30, 70)), ("settle", 7),
            splice(first_in=3, second_out=4), ("reveal", 5), ("reveal", 6), ("settle", 99),
        ):
            for payer in (9, 1, 77):
                with self.subTest(act=act, payer=payer):
                    reasons(book, thing(act, payer=payer))
                    takes(book, thing(act, payer=payer))
                    self.assertEqual(book_fields(book), before)

    def test_the_list_is_new(self):
        book = book_with()
        reasons(book, thing(("settle", 7))).append("seen")
        reasons(book, thing(("settle", 8))).append("seen")
        reasons(book, thing(("reveal", 5))).append("seen")
        self.assertEqual(reasons(book, thing(("settle", 7))), ["not published"])
        self.assertEqual(reasons(book, thing(("settle", 8))), ["no channel"])
        self.assertEqual(reasons(book, thing(("reveal", 5))), [])


if __name__ == "__main__":
    unittest.main()
