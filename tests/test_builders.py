"""Points 89 and 91: objects from their trees."""

import unittest

from tests import samples
from tests.helpers import (
    end_fields, ledger_fields, member_fields, party_fields, settings_fields, town_fields, vault_fields,
)
from turnpike.texts.builders import (
    end_from, ledger_from, member_from, party_from, settings_from, town_from, vault_from,
)
from turnpike.texts.objects import (
    end_tree, ledger_tree, member_tree, party_tree, settings_tree, town_tree, vault_tree,
)

NUMBER = (0, 4294967295)
AMOUNT = (0, 10 ** 15)
HEIGHT = (0, 10 ** 12)
FLAG = "flag"


class Many:
    """A tuple of any number of items of one form."""

    def __init__(self, form):
        self.form = form


class Value:
    """A value of point 6, which point 88 tells of; one that is wrong, and others that are right."""

    def __init__(self, wrong, *right):
        self.wrong = wrong
        self.right = right


# Forms: a pair of bounds, FLAG, a list of the forms of the items, Many, or Value.
LOCK = Value((5, 40, 100, 1), (0, 0, 0, False))
STATE = Value((7, 3, -5, 65, ((5, 40, 100),), False), (0, 0, 0, 0, (), True))
OPENING = Value((7, 1, 2, 40, 60, 10, 10 ** 12 + 1), (7, 1, 1, 0, 0, 0, 0))
SPLICE = Value((7, 1, 2, 300, 4, 5, 6), (0, 0, 0, 0, 0, 0, 0, 0))
ACT = Value(("pay", 5), ("pay", 1, 5), ("settle", 7))
WORD = Value(("open", samples.OPENING), ("opening", samples.OPENING))
THING = Value((("settle", 7), (1, 2, 3, 4, 5), 1, 1, 1), (("settle", 7), (1, 2, 3, 4), 1, 1, 1))
MAYBE_STATE = Value((), (0, 0, 0, 0, (), True))
MAYBE_STEP = Value((5,), (), (("finish",),))
SETTINGS = [
    (1, 10 ** 15), HEIGHT, HEIGHT, HEIGHT, HEIGHT, AMOUNT, HEIGHT, HEIGHT, AMOUNT, (0, 100000), HEIGHT,
]
SUMS = [AMOUNT] * 4
END = [OPENING, FLAG, STATE, MAYBE_STEP, MAYBE_STATE, FLAG, FLAG, [SUMS, NUMBER, Many(SPLICE)], FLAG]
MEMBER = [
    NUMBER, SETTINGS, HEIGHT, Many([NUMBER, HEIGHT]), AMOUNT, Many(END), Many([NUMBER, NUMBER, LOCK, LOCK]),
    Many([NUMBER, LOCK]), Many([NUMBER, AMOUNT]), Many(NUMBER), Many(NUMBER), Many(NUMBER), NUMBER, NUMBER,
    Many(ACT),
]
VAULT = [OPENING, SUMS, NUMBER, NUMBER, MAYBE_STATE, HEIGHT]
BOOK = [
    Many([NUMBER, AMOUNT]), Many(VAULT), Many([NUMBER, HEIGHT]), Many(NUMBER), Many([NUMBER, NUMBER]), HEIGHT, AMOUNT,
]
LEDGER = [BOOK, (1, 200), Many(THING)]

STRANGE = (None, "a", 10 ** 19, -10 ** 19, (None,), ((),), ("a", "a"))


def with_item(tree, path, item):
    """Return the tree with the item at the place that the path leads to."""
    if not path:
        return item
    at = path[0]
    return tree[:at] + (with_item(tree[at], path[1:], item),) + tree[at + 1:]


def at_path(tree, path):
    for at in path:
        tree = tree[at]
    return tree


def changes(tree, form, path=()):
    """Return triples of a path, an item for its place, and whether the tree is right with it."""
    told = []
    if isinstance(form, list):
        told.extend([(path, tree[:-1], False), (path, (*tree, 0), False), (path, (*tree, tree[-1]), False)])
        told.extend([(path, strange, False) for strange in (0, True, *STRANGE)])
        for at, part in enumerate(form):
            told.extend(changes(tree[at], part, (*path, at)))
    elif isinstance(form, Many):
        told.extend([(path, strange, False) for strange in (0, True, *STRANGE)])
        told.append((path, (), True))
        for at, item in enumerate(tree):
            told.extend(changes(item, form.form, (*path, at)))
    elif isinstance(form, Value):
        told.extend([(path, strange, False) for strange in (0, True, *STRANGE[1:], form.wrong)])
        told.extend([(path, item, True) for item in form.right])
    elif form == FLAG:
        told.extend([(path, item, False) for item in (0, 1, (), *STRANGE)])
        told.extend([(path, item, True) for item in (True, False)])
    else:
        least, greatest = form
        told.extend([(path, item, False) for item in (least - 1, greatest + 1, True, False, (), *STRANGE)])
        told.extend([(path, item, True) for item in (least, greatest)])
    return told


class BuilderCase(unittest.TestCase):
    def check_changes(self, build, make_tree, tree, form, but=()):
        """Check all changes of one item of the tree; what is under a path of but follows rules of its own."""
        self.assertGreater(len(changes(tree, form)), 20)
        for path, item, expected in changes(tree, form):
            if not any([path[:len(each)] == each for each in but]):
                self.check(build, make_tree, with_item(tree, path, item), expected)

    def check(self, build, make_tree, tree, expected):
        with self.subTest(tree=tree):
            found = build(tree)
            if expected:
                self.assertEqual(repr(make_tree(found)), repr(tree))
            else:
                self.assertIsNone(found)


class SettingsTest(BuilderCase):
    def test_the_object(self):
        found = settings_from(samples.SETTINGS_TREE)
        self.assertEqual(settings_fields(found), settings_fields(samples.sample_settings()))

    def test_each_item(self):
        self.check_changes(settings_from, settings_tree, samples.SETTINGS_TREE, SETTINGS)


class EndTest(BuilderCase):
    def test_the_object(self):
        self.assertEqual(end_fields(end_from(samples.END_TREE)), end_fields(samples.sample_end()))
        self.assertEqual(end_fields(end_from(samples.NEW_END_TREE)), end_fields(samples.new_end()))

    def test_each_item(self):
        self.check_changes(end_from, end_tree, samples.END_TREE, END)

    def test_step_and_next_are_both_there_or_neither_is(self):
        for step, following, expected in (
            (samples.STEP, samples.NEXT, True), (None, None, True), (samples.STEP, None, False),
            (None, samples.NEXT, False), ((), samples.NEXT, True), ((), None, False),
        ):
            tree = samples.END_TREE[:3] + (step, following) + samples.END_TREE[5:]
            self.check(end_from, end_tree, tree, expected)

    def test_what_is_not_asked(self):
        footing = (samples.END_TREE[7][0], 0, (samples.SPLICE,) * 9)
        self.check(end_from, end_tree, with_item(samples.END_TREE, (7,), footing), True)
        # States of other channels, which do not follow from one another.
        other = (99, 0, -3 * 10 ** 15, 3 * 10 ** 15, (samples.LOCK,) * 30, True)
        for path in ((2,), (4,)):
            self.check(end_from, end_tree, with_item(samples.END_TREE, path, other), True)

    def test_the_lists_are_new(self):
        first = end_from(samples.END_TREE)
        first.footing.splices.clear()
        self.assertEqual(end_tree(end_from(samples.END_TREE)), samples.END_TREE)


class MemberTest(BuilderCase):
    def test_the_object(self):
        found = member_from(samples.MEMBER_TREE)
        self.assertEqual(member_fields(found), member_fields(samples.sample_member()))
        self.assertEqual(member_tree(member_from(samples.NEW_MEMBER_TREE)), samples.NEW_MEMBER_TREE)

    def test_each_item(self):
        self.check_changes(member_from, member_tree, samples.MEMBER_TREE, MEMBER, [(5, 1)])

    def test_equal_keys_of_receipts(self):
        for receipts, expected in (
            (((9, 3), (4, 3)), True), (((9, 3), (4, 98), (9, 3)), False), (((0, 1), (0, 2)), False),
        ):
            self.check(member_from, member_tree, with_item(samples.MEMBER_TREE, (3,), receipts), expected)

    def test_equal_items_of_lists(self):
        for place in (5, 6, 7, 8, 9, 10, 11, 14):
            items = at_path(samples.MEMBER_TREE, (place,))
            self.check(member_from, member_tree, with_item(samples.MEMBER_TREE, (place,), items + items), True)

    def test_the_end_of_a_member(self):
        for path, item in (((5, 0, 3), None), ((5, 1, 4), samples.NEXT)):
            self.check(member_from, member_tree, with_item(samples.MEMBER_TREE, path, item), False)


class PartyTest(BuilderCase):
    def test_the_object(self):
        found = party_from(samples.PARTY_TREE)
        self.assertEqual(party_fields(found), party_fields(samples.sample_party()))
        self.assertEqual(party_tree(party_from(samples.OTHER_PARTY_TREE)), samples.OTHER_PARTY_TREE)

    def test_each_item(self):
        # Numbers and settings of the two members are equal, so they do not change alone.
        but = [(which, *path) for which in (0, 1) for path in ((0,), (1,), (5, 1))]
        tree = (samples.MEMBER_TREE, samples.MEMBER_TREE, True)
        self.check_changes(party_from, party_tree, tree, [MEMBER, MEMBER, FLAG], but)

    def test_the_number_of_now_and_kept(self):
        for numbers, expected in (((1, 1), True), ((2, 2), True), ((1, 2), False), ((2, 1), False)):
            tree = tuple([(number, *samples.MEMBER_TREE[1:]) for number in numbers]) + (True,)
            self.check(party_from, party_tree, tree, expected)

    def test_the_settings_of_now_and_kept(self):
        for at in range(11):
            other = with_item(samples.MEMBER_TREE, (1, at), samples.SETTINGS_TREE[at] + 1)
            self.check(party_from, party_tree, (other, samples.MEMBER_TREE, True), False)
            self.check(party_from, party_tree, (samples.MEMBER_TREE, other, True), False)
            self.check(party_from, party_tree, (other, other, True), True)

    def test_now_and_kept_are_apart(self):
        party = party_from((samples.MEMBER_TREE, samples.MEMBER_TREE, True))
        party.now.ends[0].footing.splices.clear()
        party.now.receipts.clear()
        self.assertEqual(member_tree(party.kept), samples.MEMBER_TREE)


class VaultTest(BuilderCase):
    def test_the_object(self):
        self.assertEqual(vault_fields(vault_from(samples.VAULT_TREE)), vault_fields(samples.sample_vault()))
        self.assertEqual(vault_tree(vault_from(samples.NEW_VAULT_TREE)), samples.NEW_VAULT_TREE)

    def test_each_item(self):
        self.check_changes(vault_from, vault_tree, samples.VAULT_TREE, VAULT)

    def test_published_and_since_are_both_there_or_neither_is(self):
        for published, since, expected in (
            (samples.STATE, 0, True), (None, None, True), (samples.STATE, None, False), (None, 0, False),
        ):
            self.check(vault_from, vault_tree, samples.VAULT_TREE[:4] + (published, since), expected)

    def test_nothing_is_asked_of_the_money(self):
        much = 10 ** 15
        for sums, money in (((much, 0, much, 0), 2 * much + 100), ((0, much, 0, much), 100 - 2 * much)):
            tree = with_item(samples.VAULT_TREE, (1,), sums)
            self.check(vault_from, vault_tree, tree, True)
            self.assertEqual(vault_from(tree).money, money)


class LedgerTest(BuilderCase):
    def test_the_object(self):
        self.assertEqual(ledger_fields(ledger_from(samples.LEDGER_TREE)), ledger_fields(samples.sample_ledger()))

    def test_each_item(self):
        self.check_changes(ledger_from, ledger_tree, samples.LEDGER_TREE, LEDGER, [(0, 1, 0)])

    def test_equal_keys(self):
        book = samples.BOOK_TREE
        for place, items in ((0, book[0] + ((9, 500),)), (0, ((0, 1), (0, 2))), (2, book[2] + ((4, 3),))):
            self.check(ledger_from, ledger_tree, with_item(samples.LEDGER_TREE, (0, place), items), False)

    def test_equal_numbers_of_channels(self):
        other = (7, 5, 6, 1, 1, 1, 1)
        for vaults, expected in (
            ((samples.VAULT_TREE, samples.NEW_VAULT_TREE), True), ((samples.VAULT_TREE, samples.VAULT_TREE), False),
            ((samples.VAULT_TREE, with_item(samples.NEW_VAULT_TREE, (0,), other)), False),
        ):
            self.check(ledger_from, ledger_tree, with_item(samples.LEDGER_TREE, (0, 1), vaults), expected)

    def test_equal_items_of_lists(self):
        for path in ((0, 3), (0, 4), (2,)):
            items = at_path(samples.LEDGER_TREE, path)
            self.check(ledger_from, ledger_tree, with_item(samples.LEDGER_TREE, path, items + items), True)

    def test_more_than_fifty_purses_and_much_money(self):
        purses = tuple([(party, 10 ** 15) for party in range(60)])
        self.check(ledger_from, ledger_tree, with_item(samples.LEDGER_TREE, (0, 0), purses), True)


class TownTest(BuilderCase):
    def test_the_object(self):
        found = town_from(samples.TOWN_TREE)
        self.assertEqual(town_fields(found), town_fields(samples.sample_town()))
        self.assertEqual((len(found), list(found)), (2, list(samples.LETTERS)))

    def test_each_item(self):
        letters, shown, hands, things = Many([NUMBER, NUMBER, WORD]), Many(NUMBER), Many([NUMBER, ACT]), Many(THING)
        form = [LEDGER, Many(FLAG), letters, shown, hands, things]
        self.check_changes(town_from, town_tree, samples.TOWN_TREE, form, [(0, 0, 1, 0), (1,)])

    def test_the_number_of_parties(self):
        for many, expected in ((0, False), (1, True), (8, True), (9, False)):
            members = [(number, *samples.NEW_MEMBER_TREE[1:]) for number in range(many)]
            parties = tuple([(member, member, True) for member in members])
            self.check(town_from, town_tree, with_item(samples.TOWN_TREE, (1,), parties), expected)

    def test_the_numbers_of_the_parties(self):
        for parties in ((samples.PARTY_TREE, samples.PARTY_TREE), (samples.OTHER_PARTY_TREE, *samples.TOWN_TREE[1])):
            self.check(town_from, town_tree, with_item(samples.TOWN_TREE, (1,), parties), False)

    def test_parties_that_are_none(self):
        for parties in (0, None, True, "a", (5,), (samples.MEMBER_TREE,), (samples.PARTY_TREE, ()), samples.PARTY_TREE):
            self.check(town_from, town_tree, with_item(samples.TOWN_TREE, (1,), parties), False)
        self.check(town_from, town_tree, with_item(samples.TOWN_TREE, (1, 0, 2), 1), False)

    def test_equal_items_of_lists(self):
        for place in (2, 3, 4, 5):
            items = at_path(samples.TOWN_TREE, (place,))
            self.check(town_from, town_tree, with_item(samples.TOWN_TREE, (place,), items + items), True)

    def test_a_town_that_was_built_goes_on(self):
        built = town_from(samples.TOWN_TREE)
        town = samples.sample_town()
        for deed in (("deliver", 1), ("block",), ("tell", 0), ("copy", 0), ("offer", samples.OTHER_THING)):
            self.assertEqual(built.do(deed), town.do(deed))
            self.assertEqual(town_fields(built), town_fields(town))


class TreesOfNoObjectTest(unittest.TestCase):
    def test_trees_of_no_object(self):
        trees = (
            samples.SETTINGS_TREE, samples.END_TREE, samples.MEMBER_TREE, samples.PARTY_TREE, samples.VAULT_TREE,
            samples.LEDGER_TREE, samples.TOWN_TREE,
        )
        builders = (settings_from, end_from, member_from, party_from, vault_from, ledger_from, town_from)
        for place, build in enumerate(builders):
            for tree in (0, True, None, "a", (), (1,), ((),), *trees[:place], *trees[place + 1:]):
                with self.subTest(build=build.__name__, tree=tree):
                    self.assertIsNone(build(tree))


if __name__ == "__main__":
    unittest.main()
