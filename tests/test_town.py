"""Points 75 to 79: towns, hands, deeds, forks."""

import unittest

from tests.helpers import FEE, KEY, OTHER, SECRET, opening_with, settings_with, splice_with, thing, town_fields
from turnpike.errors import (
    InvalidDeed, InvalidPurses, IsHonest, NoSuchHand, NotNow, OutOfBounds, TooMuchMoney, TurnpikeError,
    UnknownLetter, UnknownParty,
)
from turnpike.money.keys import key_of
from turnpike.town.town import Town

OPENING = opening_with(first_in=400, second_in=600, delay=12, until=13)
SETTINGS = settings_with(farthest=500, reveal_lead=16)
WORD = ("turn", 7)
# Payments of the cheat 9, for deeds that only need some thing.
PLAIN = thing(("pay", 9, 0), ())


def new_town(*numbers, room=10, purses=((1, 5000), (2, 5000), (9, 5000))):
    """Return a town with these honest parties."""
    return Town(list(purses), [(number, SETTINGS) for number in numbers], room=room)


def told_town(*numbers):
    """Return a town whose honest parties know their purses."""
    town = new_town(*numbers)
    for number in numbers:
        town.do(("tell", number))
    return town


def deliver_all(town):
    while len(town):
        town.do(("deliver", 0))


def open_town():
    """Return a town in which the honest parties 1 and 2 have a channel that is there."""
    town = told_town(1, 2)
    for number in (1, 2):
        town.do(("wish", number, ("open", OPENING)))
    deliver_all(town)
    town.do(("block",))
    for number in (1, 2):
        town.do(("tell", number))
    return town


def state_with(number, first, *locks, final=False):
    """Return a state of channel 7."""
    return (7, number, first, 1000 - first - sum([lock[1] for lock in locks]), tuple(locks), final)


class NewTownTest(unittest.TestCase):
    def check(self, error, *arguments, room=10):
        with self.assertRaises(TurnpikeError) as caught:
            Town(*arguments, room=room)
        self.assertIs(type(caught.exception), error)

    def test_the_fields(self):
        town = new_town(2, 1)
        self.assertEqual(list(town.parties), [2, 1])
        self.assertEqual([party.now.number for party in town.parties.values()], [2, 1])
        self.assertTrue(all([party.now.settings == SETTINGS for party in town.parties.values()]))
        self.assertEqual((town.letters, town.shown, town.hands, town.things), ([], [], [], []))
        self.assertEqual((town.ledger.purse(9), town.ledger.room, len(town), list(town)), (5000, 10, 0, []))

    def test_the_number_of_members(self):
        for many in (1, 8):
            with self.subTest(many=many):
                self.assertEqual(len(new_town(*range(many)).parties), many)
        for many in (0, 9):
            with self.subTest(many=many):
                self.check(OutOfBounds, [], [(number, SETTINGS) for number in range(many)])

    def test_two_members_with_one_number(self):
        self.check(OutOfBounds, [], [(1, SETTINGS), (2, SETTINGS), (1, settings_with(fee=9))])

    def test_the_errors_of_a_new_ledger_come_first(self):
        self.check(InvalidPurses, [(1, 5), (1, 5)], [])
        self.check(InvalidPurses, [(1, -1)], [(1, SETTINGS), (1, SETTINGS)])
        self.check(TooMuchMoney, [(1, 10 ** 15), (2, 1)], [], room=0)
        self.check(OutOfBounds, [(1, 5)], [(1, SETTINGS)], room=0)
        self.check(OutOfBounds, [(1, 5)], [(1, SETTINGS)], room=201)

    def test_the_arguments_are_not_kept(self):
        purses, members = [(1, 5)], [(1, SETTINGS)]
        town = Town(purses, members, room=1)
        purses.clear()
        members.append((2, SETTINGS))
        self.assertEqual((town.ledger.purse(1), list(town.parties)), (5, [1]))

    def test_a_party_may_have_no_purse(self):
        town = Town([], [(1, SETTINGS)], room=1)
        town.do(("tell", 1))
        self.assertEqual(town.parties[1].now.purse_known, 0)


class TownCase(unittest.TestCase):
    def check_raises(self, town, error, deed):
        before = town_fields(town)
        with self.assertRaises(TurnpikeError) as caught:
            town.do(deed)
        self.assertIs(type(caught.exception), error)
        self.assertEqual(town_fields(town), before)


class HappeningTest(TownCase):
    def test_a_wish_brings_letters(self):
        town = told_town(1, 2)
        self.assertIsNone(town.do(("wish", 2, ("open", OPENING))))
        town.do(("wish", 1, ("open", OPENING)))
        self.assertEqual(town.letters, [(2, 1, ("opening", OPENING)), (1, 2, ("opening", OPENING))])
        self.assertEqual((town.things, town.ledger.waiting), ([], []))

    def test_a_word_brings_things_and_a_telling_too(self):
        town = told_town(1, 2)
        for number in (1, 2):
            town.do(("wish", number, ("open", OPENING)))
        town.do(("offer", PLAIN))
        deliver_all(town)
        act = ("open", OPENING)
        self.assertEqual(town.things, [(act, (1, 2), 2, FEE, 0), (act, (1, 2), 1, FEE, 0)])
        self.assertEqual(town.ledger.waiting, [PLAIN, *town.things])

    def test_words_stand_behind_all_letters(self):
        town = open_town()
        town.do(("wish", 1, ("transfer", 7, 30)))
        town.do(("copy", 0))
        town.do(("copy", 0))
        step = ("step", 7, 1, (("transfer", 30),))
        self.assertEqual(town.letters, [(1, 2, step)] * 3)
        town.do(("deliver", 1))
        self.assertEqual(town.letters, [(1, 2, step), (1, 2, step), (2, 1, ("answer", 7, 1))])

    def test_the_order_of_the_things_of_a_telling(self):
        town = open_town()
        town.do(("say", 9, 1, WORD))
        town.do(("wish", 1, ("transfer", 7, 1)))
        deliver_all(town)
        town.do(("wish", 2, ("pay", 7, KEY, 50, 17)))
        deliver_all(town)
        state = state_with(2, 399, (KEY, 50, 17, False))
        self.assertEqual(town.parties[1].now.ends[0].last, state)
        town.do(("wish", 1, ("leave", 7)))
        town.parties[1].now.secrets.append(SECRET)
        while town.ledger.height_now < 16:
            town.do(("block",))
        before = list(town.ledger.waiting)
        town.do(("tell", 1))
        things = [(("publish", state), (1, 2), 1, FEE, 1), (("reveal", SECRET), (), 1, FEE, 2)]
        self.assertEqual((town.things[2:], town.ledger.waiting), (things, before + things))

    def test_iteration_and_length(self):
        town = told_town(1, 2)
        for number in (1, 2):
            town.do(("wish", number, ("open", OPENING)))
        self.assertEqual((len(town), [letter[0] for letter in town]), (2, [1, 2]))
        self.assertEqual(list(town), town.letters)
        town.do(("lose", 0))
        self.assertEqual((len(town), list(town)), (1, town.letters))


class HandsTest(TownCase):
    def test_an_opening_and_its_state(self):
        town = told_town(1, 2)
        town.do(("wish", 1, ("open", OPENING)))
        expected = [(1, ("open", OPENING)), (1, ("publish", state_with(0, 400)))]
        self.assertEqual(town.hands, expected)
        town.do(("wish", 2, ("open", OPENING)))
        self.assertEqual(town.hands, expected + [(2, act) for _, act in expected])

    def test_the_last_state_the_state_of_the_open_step_and_open_splices(self):
        town = open_town()
        town.do(("wish", 1, ("transfer", 7, 30)))
        before = list(town.hands)
        splice = splice_with(until=10, second_out=20)
        town.do(("wish", 1, ("splice", splice)))
        self.assertEqual(before[-1], (1, ("publish", state_with(1, 370))))
        self.assertEqual(town.hands, [*before, (1, ("splice", splice))])
        town.do(("deliver", 0))
        self.assertEqual(town.hands[-1], (2, ("publish", state_with(1, 370))))
        # The answer makes the state the last one, on which the hand was given before.
        many = len(town.hands)
        town.do(("deliver", 1))
        self.assertEqual((town.parties[1].now.ends[0].next, len(town.hands)), (None, many))

    def test_the_order_over_several_ends(self):
        town = told_town(1)
        openings = [opening_with(channel, 1, 9, 100, 0, 12, 13) for channel in (8, 3)]
        for opening in openings:
            town.do(("wish", 1, ("open", opening)))
        acts = [act for _, act in town.hands]
        expected = []
        for opening in openings:
            expected.extend([("open", opening), ("publish", (opening[0], 0, 100, 0, (), False))])
        self.assertEqual(acts, expected)

    def test_each_pair_comes_once(self):
        town = open_town()
        splice = splice_with(until=10, second_out=20)
        for _ in range(2):
            town.do(("wish", 1, ("splice", splice)))
        for number in (1, 2, 1):
            town.do(("tell", number))
        self.assertEqual(len(town.parties[1].now.ends[0].footing.splices), 2)
        self.assertEqual(len(set(town.hands)), len(town.hands))

    def test_hands_stay_when_they_are_of_use_no_more(self):
        town = open_town()
        town.do(("offer", thing(("publish", state_with(0, 400)), ())))
        for _ in range(20):
            town.do(("block",))
        town.do(("offer", thing(("settle", 7), (), tag=1)))
        town.do(("block",))
        before = list(town.hands)
        town.do(("tell", 1))
        self.assertEqual((town.parties[1].now.ends, town.hands), ([], before))

    def test_a_stop_brings_nothing_new(self):
        town = open_town()
        town.do(("wish", 1, ("transfer", 7, 30)))
        before = town_fields(town)
        self.assertIsNone(town.do(("stop", 1)))
        after = town_fields(town)
        self.assertFalse(town.parties[1].awake)
        self.assertEqual(before[0], after[0])
        self.assertEqual(before[2:], after[2:])

    def test_a_party_that_sleeps_brings_nothing(self):
        town = open_town()
        town.do(("wish", 1, ("transfer", 7, 30)))
        town.do(("stop", 2))
        before = town_fields(town)
        town.do(("deliver", 0))
        after = town_fields(town)
        self.assertEqual((after[2], before[:2], before[3:]), ([], after[:2], after[3:]))


class CanOfferTest(TownCase):
    def check(self, town, expected, *things):
        before = town_fields(town)
        for each in things:
            with self.subTest(thing=each):
                self.assertIs(town.can_offer(each), expected)
        self.assertEqual(town_fields(town), before)

    def test_a_payer_that_is_no_honest_party(self):
        town = new_town(1, 2)
        self.check(town, True, *[thing(act, (), payer=9) for act in (
            ("pay", 1, 5), ("settle", 7), ("reveal", 5), ("open", OPENING), ("publish", state_with(0, 400)),
            ("splice", splice_with()),
        )])

    def test_an_honest_payer(self):
        town = open_town()
        offered = town.things[0]
        act, hands, payer, fee, tag = offered
        self.check(town, True, *town.things)
        self.check(
            town, False, (act, (2, 1), payer, fee, tag), (act, (), payer, fee, tag), (act, hands, payer, fee + 1, tag),
            (act, hands, payer, fee, tag + 1), (("settle", 7), hands, payer, fee, tag),
            thing(("pay", 9, 1), (), payer=1), thing(("reveal", 5), (), payer=2),
        )
        self.check(town, True, (act, hands, 9, fee, tag))

    def test_hands_that_were_given(self):
        town = open_town()
        town.do(("wish", 1, ("transfer", 7, 30)))
        town.do(("wish", 1, ("splice", splice_with(until=10, second_out=20))))
        step = ("publish", state_with(1, 370))
        self.check(town, True, thing(("open", OPENING), (1, 2)), thing(step, (1,)), thing(step, (1, 9, 8)))
        self.check(town, True, thing(("splice", splice_with(until=10, second_out=20)), (1,)))
        # Party 2 has not heard of them.
        self.check(town, False, thing(step, (1, 2)), thing(step, (2,)), thing(step, (9, 2, 1)))
        self.check(town, False, thing(("splice", splice_with(until=10, second_out=20)), (1, 2)))

    def test_hands_on_another_act(self):
        town = open_town()
        self.check(
            town, False, thing(("publish", state_with(0, 399)), (1,)), thing(("publish", state_with(1, 400)), (1,)),
            thing(("publish", state_with(0, 400, final=True)), (1,)), thing(("open", opening_with(8)), (1,)),
            thing(("open", opening_with(first_in=400, second_in=600, delay=12, until=14)), (1,)),
            thing(("splice", splice_with()), (1,)),
        )

    def test_hands_of_others_are_free(self):
        self.check(open_town(), True, thing(("publish", state_with(9, 5)), (8, 9)), thing(("open", OPENING), ()))

    def test_acts_that_need_no_hands(self):
        town = new_town(1, 2)
        self.check(town, True, *[thing(act, (1, 2)) for act in (("pay", 1, 5), ("settle", 7), ("reveal", 5))])


class DeedTest(TownCase):
    def test_invalid_deeds(self):
        town = new_town(1)
        for deed in ((), ("offers", PLAIN), ("block", 1), ("tell",), ("deliver", 0, 0), ("wish", 1), (5,)):
            self.check_raises(town, InvalidDeed, deed)
        # The form comes before all else.
        self.check_raises(town, InvalidDeed, ("tell", 77, 1))
        self.check_raises(town, InvalidDeed, ("say", 1, 1))

    def test_offer(self):
        town = open_town()
        self.assertIsNone(town.do(("offer", PLAIN)))
        self.assertIsNone(town.do(("offer", town.things[0])))
        self.assertIsNone(town.do(("offer", town.things[0])))
        self.assertEqual(town.ledger.waiting[-3:], [PLAIN, town.things[0], town.things[0]])
        # The honest things are those that honest parties have offered themselves.
        self.assertEqual(len(town.things), 2)
        self.check_raises(town, NoSuchHand, ("offer", thing(("pay", 9, 1), (), payer=1)))
        self.check_raises(town, NoSuchHand, ("offer", thing(("publish", state_with(1, 0)), (1, 9))))

    def test_say(self):
        town = open_town()
        other = opening_with(8, 1, 9, 0, 100, 12, 13)
        town.do(("wish", 1, ("open", other)))
        town.do(("lose", 0))
        self.assertIsNone(town.do(("say", 9, 1, ("opening", other))))
        self.assertEqual(town.letters, [(1, 9, ("opening", other))])
        before = town_fields(town)
        self.assertIsNone(town.do(("say", 9, 8, WORD)))
        self.assertEqual(town_fields(town), before)

    def test_say_in_the_name_of_an_honest_party(self):
        town = new_town(1, 2)
        for receiver in (1, 2, 9):
            self.check_raises(town, IsHonest, ("say", 1, receiver, WORD))

    def test_deliver(self):
        town = told_town(1, 2)
        for number in (1, 2, 2):
            if number not in [end.opening[0] for end in town.parties[number].now.ends] and len(town) < 2:
                town.do(("wish", number, ("open", OPENING)))
        town.do(("copy", 0))
        letters = list(town.letters)
        for place in (-1, 3, 4, 4294967295):
            self.check_raises(town, UnknownLetter, ("deliver", place))
        self.assertIsNone(town.do(("deliver", 2)))
        self.assertEqual((town.letters, [each[2] for each in town.things]), (letters[:2], [2]))
        self.assertIsNone(town.do(("deliver", 0)))
        self.assertIsNone(town.do(("deliver", 0)))
        self.assertEqual((town.letters, [each[2] for each in town.things]), ([], [2, 1]))
        self.check_raises(town, UnknownLetter, ("deliver", 0))

    def test_deliver_to_others(self):
        town = told_town(1)
        opening = opening_with(8, 1, 9, 100, 100, 12, 13)
        town.do(("wish", 1, ("open", opening)))
        before = town_fields(town)
        self.assertEqual(town.letters, [(1, 9, ("opening", opening))])
        town.do(("deliver", 0))
        after = town_fields(town)
        self.assertEqual((town.letters, after[:2], after[3:]), ([], before[:2], before[3:]))

    def test_lose_and_copy(self):
        town = told_town(1, 2)
        for number in (1, 2):
            town.do(("wish", number, ("open", OPENING)))
        first, second = town.letters
        for kind in ("lose", "copy"):
            for place in (-1, 2, 3):
                self.check_raises(town, UnknownLetter, (kind, place))
        self.assertIsNone(town.do(("copy", 1)))
        self.assertIsNone(town.do(("copy", 0)))
        self.assertEqual(town.letters, [first, second, second, first])
        self.assertIsNone(town.do(("lose", 3)))
        self.assertIsNone(town.do(("lose", 0)))
        self.assertEqual(town.letters, [second, second])
        self.assertEqual(town.things, [])

    def test_block(self):
        town = new_town(1, room=3)
        things = [
            thing(("reveal", SECRET), tag=0), thing(("reveal", SECRET), tag=1, fee=9), thing(("pay", 1, 7), (), tag=2),
            thing(("reveal", OTHER), tag=3, fee=1), thing(("reveal", 77), tag=4, fee=1),
        ]
        for each in things:
            town.do(("offer", each))
        self.assertEqual(town.do(("block",)), [things[1], things[2], things[3]])
        self.assertEqual((town.shown, town.ledger.height_now), ([SECRET, OTHER], 1))
        self.assertEqual(town.do(("block",)), [things[4]])
        self.assertEqual(town.do(("block",)), [])
        self.assertEqual((town.shown, town.ledger.waiting), ([SECRET, OTHER, 77], [things[0]]))

    def test_tell(self):
        town = new_town(1, 2)
        for secret in (SECRET, OTHER, 77):
            town.do(("offer", thing(("reveal", secret), tag=secret)))
        town.do(("block",))
        self.assertIsNone(town.do(("tell", 1)))
        member = town.parties[1].now
        self.assertEqual((member.height, member.purse_known, member.secrets), (1, 5000, [SECRET, OTHER, 77]))
        self.assertEqual(member.receipts, {key_of(secret): 1 for secret in (SECRET, OTHER, 77)})
        self.assertEqual(town.parties[2].now.secrets, [])
        self.check_raises(town, UnknownParty, ("tell", 9))

    def test_secrets_that_a_party_knows_are_not_told_again(self):
        town = told_town(1)
        town.parties[1].now.secrets.append(OTHER)
        for secret in (SECRET, OTHER):
            town.do(("offer", thing(("reveal", secret), tag=secret)))
        town.do(("block",))
        told = []
        party = town.parties[1]
        plain_tell = party.tell
        party.tell = lambda view, secrets: told.append(list(secrets)) or plain_tell(view, secrets)
        town.do(("tell", 1))
        town.do(("tell", 1))
        self.assertEqual(told, [[SECRET], []])
        self.assertEqual(town.parties[1].now.secrets, [OTHER, SECRET])

    def test_wish(self):
        town = told_town(1)
        self.assertIsNone(town.do(("wish", 1, ("invoice", SECRET, 5))))
        self.assertEqual(town.parties[1].now.invoices, [(SECRET, 5)])
        self.check_raises(town, NotNow, ("wish", 1, ("invoice", SECRET, 5)))
        self.check_raises(town, NotNow, ("wish", 1, ("leave", 7)))
        self.check_raises(town, UnknownParty, ("wish", 9, ("leave", 7)))
        town.do(("stop", 1))
        self.check_raises(town, NotNow, ("wish", 1, ("invoice", OTHER, 5)))

    def test_stop(self):
        town = told_town(1)
        town.do(("wish", 1, ("invoice", SECRET, 5)))
        town.do(("block",))
        town.do(("tell", 1))
        self.assertEqual(town.parties[1].now.height, 1)
        self.assertIsNone(town.do(("stop", 1)))
        self.assertEqual((town.parties[1].now.height, town.parties[1].now.invoices), (0, [(SECRET, 5)]))
        self.check_raises(town, UnknownParty, ("stop", 2))
        town.do(("tell", 1))
        self.assertTrue(town.parties[1].awake)


class ForkTest(TownCase):
    DEEDS = (
        ("offer", PLAIN), ("block",), ("tell", 1), ("wish", 1, ("transfer", 7, 30)), ("copy", 0), ("deliver", 0),
        ("wish", 2, ("splice", splice_with(until=10, first_out=5))), ("stop", 1), ("lose", 0), ("tell", 1),
        ("say", 9, 1, WORD), ("offer", thing(("reveal", SECRET), (), tag=8)), ("block",), ("tell", 2),
    )

    def test_a_fork_is_equal(self):
        town = open_town()
        town.do(("wish", 1, ("transfer", 7, 30)))
        town.do(("offer", thing(("reveal", 99), (), tag=5)))
        town.do(("block",))
        town.do(("offer", PLAIN))
        self.assertEqual(town_fields(town.fork()), town_fields(town))

    def test_a_fork_of_more_than_fifty_purses(self):
        town = new_town(1, room=100)
        for party in range(60):
            town.do(("offer", thing(("pay", 100 + party, 1), (), tag=party)))
        town.do(("block",))
        self.assertEqual(len(town.fork().ledger.book.purses), 63)

    def test_a_fork_is_apart(self):
        for on_fork in (True, False):
            town = open_town()
            fork = town.fork()
            one, other = (fork, town) if on_fork else (town, fork)
            before = town_fields(other)
            for deed in self.DEEDS:
                one.do(deed)
                self.assertEqual(town_fields(other), before)
            self.assertNotEqual(town_fields(one), before)
            one.letters.clear()
            one.shown.append(1)
            one.hands.clear()
            one.things.clear()
            one.parties[1].kept.had.clear()
            one.parties.clear()
            one.ledger.book.purses.clear()
            self.assertEqual(town_fields(other), before)

    def test_the_same_deeds_do_the_same(self):
        town = open_town()
        fork = town.fork()
        for deed in self.DEEDS:
            self.assertEqual(fork.do(deed), town.do(deed))
            self.assertEqual(town_fields(fork), town_fields(town))


if __name__ == "__main__":
    unittest.main()
