"""Point 31: views of a ledger, and views for one party."""

import unittest

from tests.helpers import ledger_fields, thing, vault_fields, view_fields
from turnpike.ledger.book import Book
from turnpike.ledger.ledger import Ledger
from turnpike.ledger.vault import Vault
from turnpike.ledger.view import View

PURSES = [(3, 30), (1, 100), (2, 200)]
RECEIPTS = [(99, 5), (12, 6)]
DONE = [(3, 0), (1, 7), (3, 4), (2, 7)]


def opening(number):
    """Return the opening of a channel."""
    return (number, 1, 2, 40, 60, 10, 1000)


def waits(act, payer=3, tag=0):
    """Return a thing that waits."""
    return thing(act, (), payer, 5, tag)


def full_ledger(*waiting):
    """Return a ledger with something in each field: channels 7, 4 and 6, and 5, 9 and 8 that have ended."""
    ledger = Ledger(PURSES, room=3)
    ledger.book.vaults[7] = Vault(opening(7), sums=(5, 0, 0, 1), splices=1, least=2)
    ledger.book.vaults[4] = Vault(opening(4), published=(4, 1, 40, 60, (), False), since=8)
    ledger.book.vaults[6] = Vault(opening(6))
    ledger.book.receipts.update(RECEIPTS)
    ledger.book.ended.extend([5, 9, 8])
    ledger.book.done.extend(DONE)
    ledger.book.height = 9
    ledger.book.burnt = 44
    ledger.waiting.extend(waiting)
    return ledger


def all_fields(*waiting):
    """Return the fields of the view of all of such a ledger."""
    ledger = full_ledger()
    return {
        "purses": PURSES, "vaults": [(number, vault_fields(ledger.channel(number))) for number in (7, 4, 6)],
        "receipts": RECEIPTS, "ended": [5, 9, 8], "done": DONE, "height": 9, "waiting": list(waiting),
    }


class ViewOfAllTest(unittest.TestCase):
    waiting = (waits(("settle", 4)), waits(("pay", 1, 2), payer=1, tag=5))

    def test_everything(self):
        view = full_ledger(*self.waiting).view()
        self.assertIsInstance(view, View)
        self.assertEqual(view_fields(view), all_fields(*self.waiting))

    def test_the_kinds_of_the_fields(self):
        view = full_ledger(*self.waiting).view()
        for name, kind in (
            ("purses", dict), ("vaults", dict), ("receipts", dict), ("ended", list), ("done", list),
            ("height", int), ("waiting", list),
        ):
            with self.subTest(name=name):
                self.assertIs(type(getattr(view, name)), kind)

    def test_an_empty_ledger(self):
        self.assertEqual(view_fields(Ledger([], room=1).view()), {
            "purses": [], "vaults": [], "receipts": [], "ended": [], "done": [], "height": 0, "waiting": [],
        })

    def test_a_view_of_a_book(self):
        ledger = full_ledger()
        self.assertEqual(view_fields(View(ledger.book, list(self.waiting))), all_fields(*self.waiting))
        self.assertEqual(view_fields(View(Book([]), []))["height"], 0)

    def test_purses(self):
        view = full_ledger().view()
        self.assertEqual([view.purse(party) for party in (1, 2, 3, 4)], [100, 200, 30, 0])
        self.assertEqual(view_fields(view), all_fields())

    def test_later_things_and_blocks_change_nothing(self):
        ledger = full_ledger(*self.waiting)
        views = (ledger.view(), View(ledger.book, ledger.waiting), ledger.view_for(3, [7, 4, 6, 5, 9, 8]))
        before = [view_fields(view) for view in views]
        ledger.offer(waits(("pay", 9, 1), tag=8))
        ledger.offer(waits(("reveal", 3), tag=9))
        ledger.offer(thing(("splice", (7, 1, 3, 1000, 1, 0, 0, 0)), (1, 2), 3, 5, 10))
        for _ in range(4):
            ledger.block()
        ledger.book.vaults[6].money = 1
        self.assertEqual([view_fields(view) for view in views], before)

    def test_changing_a_view_changes_nothing(self):
        ledger = full_ledger(*self.waiting)
        before = ledger_fields(ledger)
        for view in (ledger.view(), View(ledger.book, ledger.waiting), ledger.view_for(3, [7, 4, 6, 5, 9, 8])):
            view.purses[3] = 0
            view.vaults[7].money = 0
            view.vaults[4].published = None
            del view.vaults[4]
            view.receipts[1] = 1
            view.ended.append(1)
            view.done.append((1, 1))
            view.waiting.append(waits(("pay", 1, 1)))
            view.height = 0
            self.assertEqual(ledger_fields(ledger), before)


class ViewForPartyTest(unittest.TestCase):
    def check(self, ledger, party, channels, **expected):
        fields = {**all_fields(), "waiting": [], **expected}
        if "vaults" in expected:
            fields["vaults"] = [(number, vault_fields(ledger.channel(number))) for number in expected["vaults"]]
        given = list(channels)
        for view in (ledger.view_for(party, channels), ledger.view().only_for(party, channels)):
            self.assertIsInstance(view, View)
            self.assertEqual(view_fields(view), fields)
        self.assertEqual(channels, given)

    def test_no_channels(self):
        own = {"done": [(3, 0), (3, 4)], "vaults": [], "ended": []}
        self.check(full_ledger(), 3, [], purses=[(3, 30)], **own)

    def test_the_purse(self):
        view = full_ledger().view_for(3, [])
        self.assertEqual([view.purse(party) for party in (1, 2, 3, 4)], [0, 0, 30, 0])

    def test_a_party_without_a_purse(self):
        self.check(full_ledger(), 4, [7], purses=[], done=[], vaults=[7], ended=[])
        self.assertEqual(full_ledger().view_for(4, []).purse(4), 0)

    def test_an_empty_purse(self):
        ledger = full_ledger()
        ledger.book.purses[3] = 0
        self.check(ledger, 3, [], purses=[(3, 0)], done=[(3, 0), (3, 4)], vaults=[], ended=[])

    def test_channels_that_are_there(self):
        own = {"purses": [(1, 100)], "done": [(1, 7)]}
        self.check(full_ledger(), 1, [7], vaults=[7], ended=[], **own)
        self.check(full_ledger(), 1, [4, 7], vaults=[7, 4], ended=[], **own)
        self.check(full_ledger(), 1, [6, 6, 4, 7], vaults=[7, 4, 6], ended=[], **own)

    def test_channels_that_have_ended(self):
        own = {"purses": [(1, 100)], "done": [(1, 7)]}
        self.check(full_ledger(), 1, [9], vaults=[], ended=[9], **own)
        self.check(full_ledger(), 1, [8, 5], vaults=[], ended=[5, 8], **own)

    def test_channels_that_are_not_there(self):
        self.check(full_ledger(), 1, [77, 3, 0], purses=[(1, 100)], done=[(1, 7)], vaults=[], ended=[])

    def test_channels_of_all_kinds(self):
        self.check(full_ledger(), 1, [77, 9, 6], purses=[(1, 100)], done=[(1, 7)], vaults=[6], ended=[9])

    def test_the_parties_of_a_channel_do_not_matter(self):
        self.check(full_ledger(), 1, [], purses=[(1, 100)], done=[(1, 7)], vaults=[], ended=[])
        self.check(full_ledger(), 9, [7], purses=[], done=[], vaults=[7], ended=[])

    def test_its_waiting_things(self):
        own = [waits(("pay", 1, 2), tag=1), waits(("reveal", 3), tag=2), waits(("pay", 1, 2), tag=1)]
        others = [waits(("pay", 3, 1), payer=1), waits(("settle", 4), payer=2)]
        ledger = full_ledger(own[0], others[0], own[1], others[1], own[2])
        self.check(ledger, 3, [], waiting=own, purses=[(3, 30)], done=[(3, 0), (3, 4)], vaults=[], ended=[])

    def test_a_thing_that_pays_it_is_not_its_own(self):
        ledger = full_ledger(thing(("pay", 3, 1), (3, 1), 1, 5, 0))
        self.check(ledger, 3, [], purses=[(3, 30)], done=[(3, 0), (3, 4)], vaults=[], ended=[])

    def test_the_channels_of_its_waiting_things(self):
        own = {"purses": [(3, 30)], "done": [(3, 0), (3, 4)]}
        for act, here, gone in (
            (("open", opening(7)), [7], []), (("open", opening(9)), [], [9]), (("open", opening(77)), [], []),
            (("publish", (4, 2, 40, 60, (), False)), [4], []), (("publish", (5, 2, 40, 60, (), False)), [], [5]),
            (("settle", 6), [6], []), (("settle", 8), [], [8]), (("settle", 77), [], []),
            (("splice", (7, 0, 0, 0, 0, 0, 0, 0)), [7], []), (("splice", (9, 0, 0, 0, 0, 0, 0, 0)), [], [9]),
        ):
            with self.subTest(act=act):
                ledger = full_ledger(waits(act))
                self.check(ledger, 3, [], waiting=[waits(act)], vaults=here, ended=gone, **own)

    def test_other_acts_have_no_channel(self):
        own = {"purses": [(3, 30)], "done": [(3, 0), (3, 4)], "vaults": [], "ended": []}
        for act in (("pay", 7, 4), ("pay", 4, 7), ("reveal", 7), ("reveal", 4), ("pay", 9, 5), ("reveal", 9)):
            with self.subTest(act=act):
                self.check(full_ledger(waits(act)), 3, [], waiting=[waits(act)], **own)

    def test_the_channels_of_waiting_things_of_others(self):
        ledger = full_ledger(waits(("settle", 7), payer=1), waits(("settle", 9), payer=2))
        self.check(ledger, 3, [], purses=[(3, 30)], done=[(3, 0), (3, 4)], vaults=[], ended=[])

    def test_both_kinds_of_channels(self):
        things = [waits(("settle", 4)), waits(("settle", 8), tag=1)]
        own = {"purses": [(3, 30)], "done": [(3, 0), (3, 4)]}
        self.check(full_ledger(*things), 3, [5, 7], waiting=things, vaults=[7, 4], ended=[5, 8], **own)

    def test_a_view_for_a_party_of_a_view_for_it(self):
        ledger = full_ledger(waits(("settle", 4)))
        view = ledger.view_for(3, [7, 6, 9])
        self.assertEqual(view_fields(view.only_for(3, [7, 6, 9])), view_fields(view))
        self.assertEqual([number for number in view.only_for(3, [7]).vaults], [7, 4])
        self.assertEqual(view_fields(view.only_for(1, [7, 5]))["purses"], [])
        self.assertEqual(view_fields(view.only_for(1, [7, 5]))["ended"], [])

    def test_it_is_apart_from_the_view(self):
        view = full_ledger(waits(("settle", 4))).view()
        before = view_fields(view)
        own = view.only_for(3, [7, 5])
        own.purses[3] = 0
        own.vaults[7].money = 0
        own.receipts[1] = 1
        own.ended.append(1)
        own.done.append((1, 1))
        own.waiting.append(waits(("pay", 1, 1)))
        self.assertEqual(view_fields(view), before)


if __name__ == "__main__":
    unittest.main()
