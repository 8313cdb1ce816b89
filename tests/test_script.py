"""Points 92 and 93: scripts."""

import unittest

from tests import samples
from tests.helpers import settings_with, town_fields
from turnpike.errors import InvalidText
from turnpike.texts.script import read_script, run_script, write_script
from turnpike.town.town import Town

DEEDS = [
    ("offer", samples.THING), ("say", 1, 2, ("step", 7, 4, samples.STEP)), ("deliver", 0), ("lose", 1), ("copy", 2),
    ("block",), ("tell", 1), ("wish", 1, ("splice", samples.SPLICE)), ("stop", 1),
]


def new_town():
    return Town([(1, 5000), (9, 5000)], [(1, settings_with())], room=3)


class WriteTest(unittest.TestCase):
    def test_the_text(self):
        self.assertEqual(write_script([]), "")
        self.assertEqual(write_script([("block",)]), "(block)")
        self.assertEqual(write_script([("tell", 1), ("wish", 1, ("leave", 7)), ("block",)]),
                         "(tell 1)\n(wish 1 (leave 7))\n(block)")

    def test_what_is_written_is_read(self):
        self.assertEqual(read_script(write_script(DEEDS)), list(enumerate(DEEDS, start=1)))


class ReadTest(unittest.TestCase):
    def check_wrong(self, line, text):
        with self.subTest(text=text):
            town = new_town()
            before = town_fields(town)
            for read in (read_script, lambda script: run_script(town, script)):
                with self.assertRaises(InvalidText) as caught:
                    read(text)
                self.assertEqual(caught.exception.line, line)
            self.assertEqual(town_fields(town), before)

    def test_empty_lines_and_remarks(self):
        for text, expected in (
            ("", []), ("\n", []), ("\n\n\n", []), ("#", []), ("# (block)\n#\n", []), ("#\t\u00e9\r", []),
            ("(block)", [(1, ("block",))]), ("(block)\n", [(1, ("block",))]), ("\n(block)\n\n", [(2, ("block",))]),
            ("# first\n(block)\n\n#(block)\n(tell 1)\n", [(2, ("block",)), (5, ("tell", 1))]),
            ("(block)\n(block)", [(1, ("block",)), (2, ("block",))]),
        ):
            with self.subTest(text=text):
                self.assertEqual(read_script(text), expected)

    def test_invalid_lines(self):
        for wrong in (
            " ", " # remark", "(block) # remark", "(block)#", " (block)", "(block) ", "(block)\r", "(block)(block)",
            "\t", "(block", "block", "()", "0", "N", "(blocks)", "(block 1)", "(tell)", "(tell T)", "(tell -1)",
            "(tell 01)", "(tell 4294967296)", "(offer (settle 7))", "(wish 1 (turn 7))", "(say 1 2 (leave 7))",
            "(TELL 1)", "//", "(wish 1 (transfer 7 1000000000000001))", "(deliver -1)", "(tell 1)\x00", "\u00a0",
            "\x0c", "\x1c(block)", "(block)\x0b(block)", "(block)\x85", "(block)\u2028(block)",
        ):
            self.check_wrong(1, wrong)
            self.check_wrong(3, f"(block)\n\n{wrong}\n(tell 1)")
            self.check_wrong(2, f"# remark\n{wrong}\n")

    def test_the_first_of_two_invalid_lines(self):
        self.check_wrong(2, "(block)\n(blocks)\n(block)\n(tell)")
        self.check_wrong(2, "(block)\n(tell)\nX")


class RunTest(unittest.TestCase):
    def test_all_deeds(self):
        town, other = new_town(), new_town()
        text = "# a day\n(block)\n\n(offer ((pay 1 7) () 9 5 0))\n(block)\n(tell 1)\n(wish 1 (invoice 5 6))\n"
        self.assertIsNone(run_script(town, text))
        for deed in (
            ("block",), ("offer", (("pay", 1, 7), (), 9, 5, 0)), ("block",), ("tell", 1),
            ("wish", 1, ("invoice", 5, 6)),
        ):
            other.do(deed)
        self.assertEqual(town_fields(town), town_fields(other))
        self.assertEqual((town.ledger.purse(1), town.parties[1].now.invoices), (5007, [(5, 6)]))

    def test_an_empty_script(self):
        town = new_town()
        before = town_fields(town)
        for text in ("", "\n", "# nothing"):
            self.assertIsNone(run_script(town, text))
        self.assertEqual(town_fields(town), before)

    def test_a_deed_that_raises(self):
        for wrong in (
            "(deliver 0)", "(lose 0)", "(copy 4294967295)", "(tell 2)", "(stop 9)", "(wish 9 (leave 7))",
            "(wish 1 (leave 7))", "(say 1 9 (turn 7))", "(offer ((pay 9 1) () 1 5 0))",
        ):
            for before in ("", "(block)\n", "# remark\n\n(block)\n(tell 1)\n"):
                town, other = new_town(), new_town()
                line = before.count("\n") + 1
                with self.subTest(wrong=wrong, line=line):
                    self.assertEqual(run_script(town, f"{before}{wrong}\n(block)\n{wrong}\n"), line)
                    self.assertIsNone(run_script(other, before))
                    self.assertEqual(town_fields(town), town_fields(other))

    def test_a_script_is_read_before_anything_is_done(self):
        town = new_town()
        before = town_fields(town)
        with self.assertRaises(InvalidText) as caught:
            run_script(town, "(block)\n(deliver 0)\n(block)\nwrong")
        self.assertEqual((caught.exception.line, town_fields(town)), (4, before))


if __name__ == "__main__":
    unittest.main()
