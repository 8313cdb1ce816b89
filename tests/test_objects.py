"""Point 89: objects as trees."""

import unittest

from tests import samples
from tests.helpers import settings_with
from turnpike.channel.end import End
from turnpike.ledger.ledger import Ledger
from turnpike.ledger.vault import Vault
from turnpike.money.keys import key_of
from turnpike.party.party import Party
from turnpike.texts.objects import (
    end_tree, ledger_tree, member_tree, party_tree, settings_tree, town_tree, vault_tree,
)
from turnpike.texts.trees import read_tree, write_tree
from turnpike.town.town import Town


class TreeTest(unittest.TestCase):
    def check(self, tree, expected):
        # The representation tells 1 from True, and a list from a tuple.
        self.assertEqual(repr(tree), repr(expected))
        self.assertEqual(read_tree(write_tree(tree)), expected)

    def test_settings(self):
        numbers = {
            "gap": 11, "fee": 1, "lead": 2, "margin": 3, "delay": 4, "far": 5, "least": 6, "farthest": 7,
            "reveal_lead": 8, "base": 9, "per_mille": 10,
        }
        self.check(settings_tree(settings_with(**numbers)), (1, 2, 3, 4, 5, 6, 7, 8, 9, 10, 11))
        self.check(settings_tree(samples.sample_settings()), samples.SETTINGS_TREE)

    def test_end(self):
        self.check(end_tree(samples.sample_end()), samples.END_TREE)
        self.check(end_tree(samples.new_end()), samples.NEW_END_TREE)

    def test_each_flag_of_an_end(self):
        for place, name in ((5, "frozen"), (6, "leaving"), (8, "there")):
            end = End(samples.OPENING, as_first=True)
            setattr(end, name, True)
            tree = end_tree(end)
            with self.subTest(name=name):
                self.assertEqual([at for at in (5, 6, 8) if tree[at]], [place])

    def test_member(self):
        self.check(member_tree(samples.sample_member()), samples.MEMBER_TREE)
        self.check(member_tree(Party(1, samples.sample_settings()).now), samples.NEW_MEMBER_TREE)

    def test_party(self):
        self.check(party_tree(samples.sample_party()), samples.PARTY_TREE)
        new = samples.NEW_MEMBER_TREE
        self.check(party_tree(Party(1, samples.sample_settings())), (new, new, True))

    def test_vault(self):
        self.check(vault_tree(samples.sample_vault()), samples.VAULT_TREE)
        self.check(vault_tree(Vault(samples.OTHER_OPENING)), samples.NEW_VAULT_TREE)

    def test_ledger(self):
        self.check(ledger_tree(samples.sample_ledger()), samples.LEDGER_TREE)
        self.check(ledger_tree(Ledger([], room=200)), (((), (), (), (), (), 0, 0), 200, ()))

    def test_a_ledger_after_blocks(self):
        ledger = Ledger([(1, 100), (2, 100)], room=5)
        ledger.offer((("pay", 7, 3), (), 2, 1, 4))
        ledger.offer((("reveal", 5), (), 1, 1, 0))
        ledger.offer((("settle", 5), (), 1, 1, 0))
        ledger.block()
        book = (((1, 99), (2, 96), (7, 3)), (), ((key_of(5), 1),), (), ((2, 4), (1, 0)), 1, 2)
        self.check(ledger_tree(ledger), (book, 5, ((("settle", 5), (), 1, 1, 0),)))

    def test_town(self):
        self.check(town_tree(samples.sample_town()), samples.TOWN_TREE)
        town = Town([(1, 5)], [(1, samples.sample_settings())], room=2)
        new = samples.NEW_MEMBER_TREE
        ledger = ((((1, 5),), (), (), (), (), 0, 0), 2, ())
        self.check(town_tree(town), (ledger, ((new, new, True),), (), (), (), ()))

    def test_a_tree_does_not_change_with_its_object(self):
        town = samples.sample_town()
        tree = town_tree(town)
        for deed in (("block",), ("tell", 1), ("lose", 0), ("stop", 0)):
            town.do(deed)
        town.ledger.book.purses.clear()
        self.check(tree, samples.TOWN_TREE)


if __name__ == "__main__":
    unittest.main()
