"""Points 90 and 91: saved texts of parties and towns."""

import unittest

from tests import samples
from tests.helpers import end_with, member_fields, party_fields, settings_with, thing, town_fields
from turnpike.errors import InvalidText
from turnpike.ledger.vault import Vault
from turnpike.party.party import Party
from turnpike.texts.saved import party_text, read_party, read_town, town_text
from turnpike.texts.trees import write_tree
from turnpike.town.town import Town

NEW_MEMBER = "(1 (5 10 11 12 13 14 15 16 17 18 19) 0 () 0 () () () () () () () 0 0 ())"
NEW_TOWN = f"(((((1 50)) () () () () 0 0) 3 ()) (({NEW_MEMBER} {NEW_MEMBER} T)) () () () ())"


def texts(head, *trees):
    """Return the saved texts of these trees."""
    return [f"{head}\n{write_tree(tree)}\n" for tree in trees]


class WriteTest(unittest.TestCase):
    def test_a_party(self):
        self.assertEqual(party_text(Party(1, settings_with())), f"turnpike party 1\n{NEW_MEMBER}\n")

    def test_what_was_saved_last_is_written(self):
        party = Party(1, settings_with())
        party.kept = samples.sample_member()
        expected = texts("turnpike party 1", samples.MEMBER_TREE)[0]
        self.assertEqual(party_text(party), expected)
        party.awake = False
        self.assertEqual(party_text(party), expected)

    def test_a_town(self):
        town = Town([(1, 50)], [(1, settings_with())], room=3)
        self.assertEqual(town_text(town), f"turnpike town 1\n{NEW_TOWN}\n")
        self.assertEqual(town_text(samples.sample_town()), texts("turnpike town 1", samples.TOWN_TREE)[0])


class ReadTest(unittest.TestCase):
    def test_a_party_is_what_was_saved_and_asleep(self):
        party = Party(1, settings_with())
        party.kept = samples.sample_member()
        party.now.height = 7
        found = read_party(party_text(party))
        expected = member_fields(samples.sample_member())
        self.assertEqual(party_fields(found), (expected, expected, False))
        self.assertEqual(party_text(found), party_text(party))
        found.now.ends.clear()
        self.assertEqual(member_fields(found.kept), expected)

    def test_a_party_that_stops_is_the_party_that_is_read(self):
        party = Party(1, settings_with())
        party.wish(("invoice", 5, 6))
        party.now.height = 7
        found = read_party(party_text(party))
        party.stop()
        self.assertEqual(party_fields(found), party_fields(party))

    def test_a_town(self):
        for town in (samples.sample_town(), Town([(1, 50)], [(1, settings_with())], room=3)):
            found = read_town(town_text(town))
            self.assertEqual(town_fields(found), town_fields(town))
            self.assertEqual(town_text(found), town_text(town))

    def test_parties_of_a_town_are_as_they_were(self):
        town = Town([(1, 50)], [(1, settings_with()), (2, settings_with())], room=3)
        town.do(("block",))
        town.do(("tell", 1))
        town.do(("stop", 2))
        found = read_town(town_text(town))
        self.assertEqual([party.awake for party in found.parties.values()], [True, False])
        self.assertEqual((found.parties[1].now.height, found.parties[1].kept.height), (1, 0))

    def test_a_town_that_was_read_goes_on(self):
        town = samples.sample_town()
        found = read_town(town_text(town))
        for deed in (("deliver", 1), ("offer", thing(("reveal", 3))), ("block",), ("tell", 0), ("copy", 0)):
            self.assertEqual(found.do(deed), town.do(deed))
        self.assertEqual(town_text(found), town_text(town))


    def test_a_party_that_keeps_a_state_of_another_channel(self):
        town = Town([(1, 5000)], [(1, settings_with())], room=3)
        end = end_with(number=4)
        end.last = (99, *end.last[1:])
        end.leave()
        town.parties[1].now.ends.append(end)
        town.ledger.book.vaults[7] = Vault(end.opening)
        found = read_town(town_text(town))
        found.do(("tell", 1))
        self.assertEqual(found.things, [(("publish", end.last), (), 1, 5, 0)])


class WrongTextTest(unittest.TestCase):
    def check(self, read, line, text):
        with self.subTest(text=text[:60]):
            with self.assertRaises(InvalidText) as caught:
                read(text)
            self.assertEqual(caught.exception.line, line)

    def rows(self):
        return (
            (read_party, "turnpike party 1", NEW_MEMBER, "turnpike town 1", NEW_TOWN),
            (read_town, "turnpike town 1", NEW_TOWN, "turnpike party 1", NEW_MEMBER),
        )

    def test_the_lines(self):
        for read, head, body, _, _ in self.rows():
            self.assertIsNotNone(read(f"{head}\n{body}\n"))
            for text in (
                "", "\n", "\n\n", "\n\n\n", head, f"{head}\n", body, f"{body}\n", f"{head}\n{body}", f"{head}{body}\n",
                f"{head}\n{body}\n\n", f"{head}\n{body}\n{body}", f"{head}\n{body}\n{body}\n", f"\n{head}\n{body}\n",
                f"{head}\n\n{body}\n", f"{head}\n{body}\n ", f"{head} {body}\n\n", f"{head}\r{body}\r",
            ):
                self.check(read, 1, text)

    def test_another_head(self):
        for read, head, body, other_head, other_body in self.rows():
            for first in (
                other_head, f"{head} ", f" {head}", head.upper(), head.replace(" 1", " 2"), head.replace(" ", "  "),
                head.replace(" 1", ""), f"{head}0", "", f"#{head}", f"{head}\r",
            ):
                self.check(read, 1, f"{first}\n{body}\n")
                self.check(read, 1, f"{first}\nwrong\n")
            self.check(read, 1, f"{other_head}\n{other_body}\n")
            self.check(read, 2, f"{head}\n{other_body}\n")

    def test_a_body_that_is_no_tree(self):
        for read, head, body, _, _ in self.rows():
            for wrong in (
                "", " ", f"{body} ", f" {body}", f"{body}\r", f"({body}", f"{body})", body.replace(" ", "  ", 1),
                body[:-1], body.replace(" 0", " 00", 1), body.replace(" 0", " -0", 1), body + body, "X", "1.5",
                body.replace("(1 ", "(1" + "0" * 20 + " ", 1), "(" * 21 + ")" * 21,
            ):
                self.check(read, 2, f"{head}\n{wrong}\n")

    def test_a_tree_of_no_object(self):
        for read, head, body, _, _ in self.rows():
            for wrong in (
                "()", "0", "N", "T", "party", f"({body})", body[:-1] + " ())", body.replace(" 19)", " -1)"),
                body.replace("(5 10 ", "(0 10 "), body.replace(" 18 19)", " 100001 19)"),
                body.replace("(5 10 ", "(10 "), body.replace("(5 10 ", "(5 T "),
            ):
                self.check(read, 2, f"{head}\n{wrong}\n")

    def test_conditions_of_parties_and_towns(self):
        member = samples.MEMBER_TREE
        for text in texts(
            "turnpike party 1", (*member[:13], 4294967296, member[14]), (*member[:2], 10 ** 12 + 1, *member[3:]),
            (*member[:4], 10 ** 15 + 1, *member[5:]), (*member[:3], ((9, 3), (9, 4)), *member[4:]), samples.PARTY_TREE,
        ):
            self.check(read_party, 2, text)
        ledger, parties, *rest = samples.TOWN_TREE
        for text in texts(
            "turnpike town 1", (ledger, (), *rest), (ledger, parties + parties, *rest),
            ((*ledger[:1], 0, ledger[2]), parties, *rest), (ledger, ((*parties[0][:2], 1),), *rest), ledger,
        ):
            self.check(read_town, 2, text)


if __name__ == "__main__":
    unittest.main()
