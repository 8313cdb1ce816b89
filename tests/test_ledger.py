"""Points 22, 24, 25, 29, 30 and 80: the ledger, blocks, and the money of the beginning."""

import random
import unittest

from tests.helpers import book_fields, ledger_fields, thing, vault_fields
from turnpike.errors import InvalidPurses, OutOfBounds, TooMuchMoney, TurnpikeError
from turnpike.ledger.ledger import Ledger, copy_ledger
from turnpike.ledger.vault import Vault
from turnpike.money.keys import key_of

MUCH = 10 ** 15
OPENING = (7, 1, 2, 40, 60, 2, 1000)
PURSES = [(9, 50), (1, 100), (2, 200)]


def plain(first, second, *locks, number=5, final=False):
    """Return a state of channel 7 with this free of the ends and these locks."""
    return (7, number, first, second, tuple(locks), final)


def pay(amount=0, payer=9, fee=5, tag=0, to=1):
    """Return a thing that pays."""
    return thing(("pay", to, amount), (), payer, fee, tag)


def ledger_with(*things, purses=PURSES, room=10):
    """Return a ledger to which these things are offered."""
    ledger = Ledger(purses, room=room)
    for each in things:
        ledger.offer(each)
    return ledger


def busy_ledger():
    """Return a ledger that has something of everything."""
    ledger = ledger_with(
        thing(("open", OPENING)), thing(("open", (8, 2, 1, 3, 4, 0, 99)), tag=1),
        thing(("publish", plain(30, 70)), tag=2), thing(("publish", (8, 0, 3, 4, (), False)), tag=3),
        thing(("reveal", 5), tag=4), thing(("settle", 8), tag=5), thing(("settle", 9), tag=6), room=3,
    )
    for _ in range(3):
        ledger.block()
    return ledger


class NewLedgerTest(unittest.TestCase):
    def check(self, error, purses, room=10):
        with self.assertRaises(TurnpikeError) as caught:
            Ledger(purses, room=room)
        self.assertIs(type(caught.exception), error)

    def test_the_fields(self):
        ledger = Ledger(PURSES, room=3)
        self.assertEqual(ledger_fields(ledger), ((PURSES, [], [], [], [], 0, 0), 3, []))
        self.assertIs(type(ledger.waiting), list)

    def test_no_purses(self):
        self.assertEqual(Ledger([], room=1).book.purses, {})

    def test_the_number_of_pairs(self):
        self.assertEqual(len(Ledger([(party, 1) for party in range(50)], room=1).book.purses), 50)
        self.check(InvalidPurses, [(party, 1) for party in range(51)])

    def test_two_pairs_of_one_party(self):
        self.check(InvalidPurses, [(1, 5), (2, 5), (1, 6)])
        self.check(InvalidPurses, [(0, 5), (0, 5)])
        self.assertEqual(Ledger([(1, 5), (2, 5)], room=1).book.purses, {1: 5, 2: 5})

    def test_the_amounts(self):
        for amount in (0, 1, MUCH):
            with self.subTest(amount=amount):
                self.assertEqual(Ledger([(1, amount), (2, 0)], room=1).purse(1), amount)
        for amount in (-1, -MUCH, MUCH + 1):
            with self.subTest(amount=amount):
                self.check(InvalidPurses, [(1, 0), (2, amount)])
                self.check(InvalidPurses, [(2, amount), (1, 0)])

    def test_the_amounts_together(self):
        self.assertEqual(Ledger([(1, MUCH - 7), (2, 7)], room=1).all_money, MUCH)
        self.check(TooMuchMoney, [(1, MUCH - 7), (2, 8)])
        self.check(TooMuchMoney, [(1, MUCH), (2, 1)])
        self.check(TooMuchMoney, [(1, MUCH), (2, MUCH)])

    def test_the_room(self):
        for room in (1, 2, 199, 200):
            with self.subTest(room=room):
                self.assertEqual(Ledger(PURSES, room=room).room, room)
        for room in (0, -1, 201, 10 ** 9):
            with self.subTest(room=room):
                self.check(OutOfBounds, PURSES, room)

    def test_the_error_that_is_named_first(self):
        self.check(InvalidPurses, [(party, MUCH) for party in range(51)], 0)
        self.check(InvalidPurses, [(1, MUCH), (1, MUCH)], 0)
        self.check(InvalidPurses, [(1, MUCH + 1)], 0)
        self.check(InvalidPurses, [(1, MUCH), (2, MUCH), (3, -1)])
        self.check(TooMuchMoney, [(1, MUCH), (2, 1)], 0)
        self.check(TooMuchMoney, [(1, MUCH), (2, 1)], 201)

    def test_the_purses_are_not_kept(self):
        purses = [(1, 10), (2, 20)]
        ledger = Ledger(purses, room=1)
        purses.append((3, 30))
        self.assertEqual(list(ledger.book.purses.items()), [(1, 10), (2, 20)])
        ledger.book.give(1, 1)
        self.assertEqual(purses, [(1, 10), (2, 20), (3, 30)])


class AskingTest(unittest.TestCase):
    def test_purses(self):
        ledger = Ledger(PURSES, room=1)
        self.assertEqual([ledger.purse(party) for party in (1, 2, 9, 3)], [100, 200, 50, 0])
        self.assertEqual(list(ledger.book.purses.items()), PURSES)

    def test_properties(self):
        ledger = Ledger(PURSES, room=1)
        self.assertEqual((ledger.height_now, ledger.burnt_so_far, ledger.all_money), (0, 0, 350))
        ledger.offer(thing(("open", OPENING)))
        ledger.block()
        ledger.block()
        self.assertEqual((ledger.height_now, ledger.burnt_so_far, ledger.all_money), (2, 5, 345))
        self.assertEqual(ledger.purse(1), 60)

    def test_channels(self):
        ledger = busy_ledger()
        self.assertIs(7 in ledger, True)
        self.assertIs(8 in ledger, False)
        self.assertIs(99 in ledger, False)
        self.assertIsNone(ledger.channel(8))
        self.assertIsNone(ledger.channel(99))
        self.assertIsInstance(ledger.channel(7), Vault)
        self.assertEqual(
            vault_fields(ledger.channel(7)), (OPENING, (0, 0, 0, 0), 0, 0, plain(30, 70), 1, 100)
        )

    def test_a_channel_with_the_number_zero(self):
        ledger = ledger_with(thing(("open", (0, 1, 2, 40, 60, 2, 1000))))
        self.assertNotIn(0, ledger)
        ledger.block()
        self.assertIn(0, ledger)
        self.assertEqual(ledger.channel(0).money, 100)

    def test_a_channel_that_is_handed_out_is_a_copy(self):
        ledger = busy_ledger()
        before = ledger_fields(ledger)
        handed = ledger.channel(7)
        handed.money = 1
        handed.published = None
        handed.least = 99
        self.assertEqual(ledger_fields(ledger), before)

    def test_a_copy_does_not_change_later(self):
        ledger = ledger_with(thing(("open", OPENING)))
        ledger.block()
        handed = ledger.channel(7)
        ledger.offer(thing(("publish", plain(30, 70)), tag=1))
        ledger.block()
        self.assertEqual(vault_fields(handed), vault_fields(Vault(OPENING)))
        self.assertEqual(ledger.channel(7).since, 2)

    def test_reasons(self):
        ledger = busy_ledger()
        for words, wanted in (
            ([], pay(tag=9)), (["done"], pay()), (["purse"], pay(tag=9, fee=99)),
            (["no channel"], thing(("settle", 8), tag=9)), (["gone"], thing(("open", (8, 1, 2, 0, 0, 0, 3)), tag=9)),
            (["stands"], thing(("open", (7, 1, 2, 0, 0, 0, 3)), tag=9)), (["runs"], thing(("settle", 7), tag=9)),
            (["shown"], thing(("reveal", 5), tag=9)),
        ):
            with self.subTest(wanted=wanted):
                self.assertEqual(ledger.reasons_against(wanted), words)

    def test_reasons_at_the_present_height(self):
        ledger = Ledger(PURSES, room=1)
        wanted = thing(("open", (7, 1, 2, 0, 0, 0, 1)))
        self.assertEqual(ledger.reasons_against(wanted), [])
        ledger.block()
        self.assertEqual(ledger.reasons_against(wanted), [])
        ledger.block()
        self.assertEqual(ledger.reasons_against(wanted), ["late"])

    def test_asking_changes_nothing(self):
        ledger = busy_ledger()
        before = ledger_fields(ledger)
        ledger.reasons_against(pay(tag=9)).append("seen")
        ledger.purse(77)
        ledger.channel(77)
        ledger.view()
        ledger.view_for(77, [7, 8])
        self.assertEqual(ledger_fields(ledger), before)
        self.assertEqual(ledger.reasons_against(pay(tag=9)), [])


class OfferTest(unittest.TestCase):
    def test_things_wait_in_order(self):
        things = [pay(tag=3), pay(fee=9), pay(tag=1)]
        ledger = ledger_with(*things)
        self.assertEqual(ledger.waiting, things)
        self.assertEqual(book_fields(ledger.book), book_fields(Ledger(PURSES, room=10).book))

    def test_a_thing_that_is_offered_twice_waits_twice(self):
        ledger = ledger_with(pay(), pay(tag=1), pay())
        self.assertEqual(ledger.waiting, [pay(), pay(tag=1), pay()])

    def test_a_thing_that_is_not_ready_may_be_offered(self):
        ledger = ledger_with(thing(("settle", 99), payer=77))
        self.assertEqual(len(ledger.waiting), 1)


class BlockTest(unittest.TestCase):
    def check(self, ledger, did, waiting):
        found = ledger.block()
        self.assertIs(type(found), list)
        self.assertEqual(found, did)
        self.assertEqual(ledger.waiting, waiting)

    def test_an_empty_block(self):
        ledger = Ledger(PURSES, room=1)
        self.check(ledger, [], [])
        self.assertEqual(ledger_fields(ledger), ((PURSES, [], [], [], [], 1, 0), 1, []))

    def test_each_block_raises_the_height(self):
        ledger = Ledger(PURSES, room=1)
        for height in range(1, 6):
            ledger.block()
            self.assertEqual(ledger.height_now, height)

    def test_the_greatest_fee_first(self):
        things = [pay(tag=0, fee=2), pay(tag=1, fee=4), pay(tag=2, fee=1), pay(tag=3, fee=3)]
        self.check(ledger_with(*things), [things[1], things[3], things[0], things[2]], [])

    def test_equal_fees(self):
        things = [pay(tag=3, fee=2), pay(tag=1, fee=4), pay(tag=2, fee=2), pay(tag=0, fee=4), pay(tag=7, fee=4)]
        self.check(ledger_with(*things), [things[at] for at in (1, 3, 4, 0, 2)], [])

    def test_things_without_a_fee(self):
        things = [pay(tag=3, fee=0), pay(tag=1, fee=0), pay(tag=2, fee=1)]
        self.check(ledger_with(*things), [things[2], things[0], things[1]], [])

    def test_a_full_block(self):
        things = [pay(tag=tag, fee=1 + tag % 2) for tag in range(5)]
        ledger = ledger_with(*things, room=2)
        self.check(ledger, [things[1], things[3]], [things[0], things[2], things[4]])
        self.check(ledger, [things[0], things[2]], [things[4]])
        self.check(ledger, [things[4]], [])
        self.check(ledger, [], [])

    def test_a_block_with_room_for_one(self):
        ledger = ledger_with(pay(), pay(tag=1), room=1)
        self.check(ledger, [pay()], [pay(tag=1)])
        self.check(ledger, [pay(tag=1)], [])

    def test_a_block_with_much_room(self):
        things = [pay(tag=tag, fee=0) for tag in range(201)]
        ledger = ledger_with(*things, room=200)
        self.check(ledger, things[:200], things[200:])

    def test_a_block_without_a_ready_thing(self):
        things = [thing(("settle", 7)), pay(fee=51), pay(payer=77)]
        ledger = ledger_with(*things)
        self.check(ledger, [], things)
        self.assertEqual(book_fields(ledger.book), (PURSES, [], [], [], [], 1, 0))

    def test_the_order_of_what_stays(self):
        late = [thing(("settle", at), tag=at, fee=at) for at in (3, 2, 4)]
        ledger = ledger_with(late[0], pay(), late[1], pay(tag=1), late[2])
        self.check(ledger, [pay(), pay(tag=1)], late)

    def test_a_thing_is_judged_at_the_height_of_the_block(self):
        opening = thing(("open", (7, 1, 2, 0, 0, 0, 1)))
        late = thing(("open", (8, 1, 2, 0, 0, 0, 0)), tag=1)
        ledger = ledger_with(opening, late)
        self.check(ledger, [opening], [late])
        ledger = ledger_with(opening)
        secret = thing(("reveal", 5), tag=1)
        ledger.offer(secret)
        ledger.block()
        self.assertEqual(ledger.book.receipts, {key_of(5): 1})

    def test_one_that_is_ready_once_another_is_done(self):
        first = thing(("open", OPENING), fee=1)
        second = thing(("publish", plain(30, 70)), tag=1, fee=9)
        self.check(ledger_with(second, first), [first, second], [])
        self.check(ledger_with(second, first, room=1), [first], [second])

    def test_one_that_gets_its_money_in_the_same_block(self):
        poor = pay(amount=3, payer=5, fee=2, to=9)
        self.check(ledger_with(poor, pay(to=5, amount=5, fee=1)), [pay(to=5, amount=5, fee=1), poor], [])
        self.check(ledger_with(poor, pay(to=5, amount=4, fee=1)), [pay(to=5, amount=4, fee=1)], [poor])

    def test_one_that_is_ready_goes_before_lesser_fees(self):
        opening = thing(("open", OPENING), fee=2)
        publish = thing(("publish", plain(30, 70)), tag=1, fee=9)
        other = pay(tag=2, fee=1)
        self.check(ledger_with(other, publish, opening), [opening, publish, other], [])

    def test_one_that_is_not_ready_any_more(self):
        high = pay(amount=40, fee=8)
        low = pay(amount=5, fee=3, tag=1)
        self.check(ledger_with(low, high), [high], [low])

    def test_a_greater_fee_that_is_not_ready_is_passed_over(self):
        late = thing(("settle", 7), fee=40)
        self.check(ledger_with(late, pay()), [pay()], [late])
        self.check(ledger_with(pay(), late), [pay()], [late])

    def test_a_thing_that_is_offered_twice_is_done_once(self):
        ledger = ledger_with(pay(amount=1), pay(amount=1))
        self.check(ledger, [pay(amount=1)], [pay(amount=1)])
        self.check(ledger, [], [pay(amount=1)])
        self.assertEqual(ledger.purse(1), 101)

    def test_the_tag_of_another_payer(self):
        other = pay(payer=2)
        self.check(ledger_with(pay(), other), [pay(), other], [])

    def test_what_was_done_is_noted_in_order(self):
        ledger = ledger_with(pay(tag=3, fee=1), pay(tag=4, fee=2), pay(payer=2, tag=3, fee=3))
        ledger.block()
        self.assertEqual(ledger.book.done, [(2, 3), (9, 4), (9, 3)])

    def test_the_list_is_new(self):
        ledger = ledger_with(pay(), pay(tag=1), room=1)
        ledger.block().append(pay(tag=7))
        self.assertEqual(ledger_fields(ledger)[2], [pay(tag=1)])

    def test_the_life_of_a_channel(self):
        ledger = ledger_with(thing(("open", OPENING)))
        self.check(ledger, [thing(("open", OPENING))], [])
        ledger.offer(thing(("publish", plain(30, 70)), tag=1))
        settle = thing(("settle", 7), tag=2)
        ledger.offer(settle)
        self.check(ledger, [thing(("publish", plain(30, 70)), tag=1)], [settle])
        self.check(ledger, [], [settle])
        self.check(ledger, [], [settle])
        self.check(ledger, [settle], [])
        self.assertEqual(ledger_fields(ledger)[0][0], [(9, 35), (1, 90), (2, 210)])
        self.assertEqual((ledger.book.ended, ledger.height_now, ledger.burnt_so_far), ([7], 5, 15))


class CopyLedgerTest(unittest.TestCase):
    def change(self, ledger):
        ledger.offer(thing(("pay", 77, 1), tag=50))
        ledger.block()
        ledger.book.vaults[7].money = 1
        ledger.book.vaults[7].least = 9
        ledger.book.vaults[5] = Vault(OPENING)
        ledger.book.receipts[3] = 3
        ledger.book.ended.append(9)
        ledger.book.done.append((9, 99))
        ledger.waiting.append(pay())
        ledger.room = 5

    def test_a_copy_is_equal(self):
        ledger = busy_ledger()
        copied = copy_ledger(ledger)
        self.assertIsInstance(copied, Ledger)
        self.assertEqual(ledger_fields(copied), ledger_fields(busy_ledger()))
        self.assertEqual(ledger_fields(ledger), ledger_fields(busy_ledger()))

    def test_all_is_apart(self):
        ledger = busy_ledger()
        copied = copy_ledger(ledger)
        self.assertIsNot(copied.book, ledger.book)
        self.assertIsNot(copied.book.vaults[7], ledger.book.vaults[7])
        self.assertIsNot(copied.waiting, ledger.waiting)

    def test_a_change_of_the_copy(self):
        ledger = busy_ledger()
        self.change(copy_ledger(ledger))
        self.assertEqual(ledger_fields(ledger), ledger_fields(busy_ledger()))

    def test_a_change_of_the_ledger(self):
        ledger = busy_ledger()
        copied = copy_ledger(ledger)
        self.change(ledger)
        self.assertEqual(ledger_fields(copied), ledger_fields(busy_ledger()))

    def test_a_ledger_with_more_purses_than_a_new_one(self):
        ledger = Ledger([(party, 10) for party in range(50)], room=1)
        ledger.offer(thing(("pay", 77, 1), payer=3))
        ledger.block()
        copied = copy_ledger(ledger)
        self.assertEqual(len(copied.book.purses), 51)
        self.assertEqual(ledger_fields(copied), ledger_fields(ledger))

    def test_the_waiting_things(self):
        ledger = busy_ledger()
        self.assertEqual(ledger.waiting, [thing(("settle", 9), tag=6)])
        copied = copy_ledger(ledger)
        copied.offer(pay(tag=8))
        self.assertEqual(ledger.waiting, [thing(("settle", 9), tag=6)])
        self.assertEqual(copied.waiting, [thing(("settle", 9), tag=6), pay(tag=8)])


class MoneyTest(unittest.TestCase):
    """Purses, channels and what was burnt are always together the money of the beginning."""

    def random_state(self, chance, channel):
        first = chance.randint(0, 20)
        locks = tuple(
            (key_of(chance.randint(0, 3)), 2, chance.randint(0, 40), chance.random() < 0.5)
            for _ in range(chance.randint(0, 2))
        )
        second = 20 - first - 2 * len(locks)
        return (channel, chance.randint(0, 5), first, second, locks, chance.random() < 0.2)

    def random_act(self, chance):
        channel = chance.randint(0, 2)
        kind = chance.choice(["pay", "open", "publish", "publish", "settle", "settle", "splice", "reveal"])
        if kind == "pay":
            return ("pay", chance.randint(1, 5), chance.randint(0, 9))
        if kind == "open":
            return ("open", (chance.randint(0, 9), chance.randint(1, 3), 4, 9, 11, chance.randint(0, 3), 50))
        if kind == "publish":
            return ("publish", self.random_state(chance, channel))
        if kind == "splice":
            amounts = [chance.choice([0, 0, 3, 8]) for _ in range(4)]
            return ("splice", (channel, chance.randint(0, 2), chance.randint(0, 3), 50, *amounts))
        return (kind, channel)

    def test_random_things(self):
        chance = random.Random(80)
        kinds = {}
        for _ in range(60):
            ledger = Ledger([(1, 300), (2, 200), (3, 100), (4, 400)], room=3)
            for tag in range(120):
                hands = tuple(chance.choice([(1, 2, 3, 4), (1, 2, 3, 4), (1, 4), ()]))
                ledger.offer((self.random_act(chance), hands, chance.randint(1, 4), chance.randint(0, 4), tag))
                for done in ledger.block() if tag % 2 else []:
                    kinds[done[0][0]] = kinds.get(done[0][0], 0) + 1
                self.assertEqual(ledger.all_money + ledger.burnt_so_far, 1000)
                self.assertEqual(ledger.all_money, sum(ledger.book.purses.values()) + sum(
                    [vault.money for vault in ledger.book.vaults.values()]
                ))
                self.assertTrue(all(amount >= 0 for amount in ledger.book.purses.values()))
                self.assertTrue(all(vault.money >= 0 for vault in ledger.book.vaults.values()))
        self.assertEqual(sorted(kinds), ["open", "pay", "publish", "reveal", "settle", "splice"])


if __name__ == "__main__":
    unittest.main()
