"""Points 75 and 78: the form of a deed."""

import unittest

from turnpike.errors import InvalidDeed
from turnpike.town.deeds import check_deed

DEEDS = (
    ("offer", (("settle", 7), (), 9, 5, 0)), ("say", 1, 2, ("turn", 7)), ("deliver", 0), ("lose", 0), ("copy", 0),
    ("block",), ("tell", 1), ("wish", 1, ("leave", 7)), ("stop", 1),
)


class CheckDeedTest(unittest.TestCase):
    def check(self, deed):
        with self.subTest(deed=deed):
            with self.assertRaises(InvalidDeed):
                check_deed(deed)

    def test_each_deed(self):
        for deed in DEEDS:
            with self.subTest(deed=deed):
                self.assertIsNone(check_deed(deed))

    def test_an_item_less_and_an_item_more(self):
        for deed in DEEDS:
            self.check(deed[:-1])
            self.check((*deed, 1))

    def test_a_word_that_is_none_of_these(self):
        for word in ("", "offers", "pay", "open", "Offer", "blocks", 5, None, True, ("block",)):
            for many in range(4):
                self.check((word, *[1] * many))

    def test_an_empty_tuple(self):
        self.check(())

    def test_the_other_items_are_not_asked(self):
        for deed in (("offer", 5), ("deliver", -1), ("tell", ()), ("wish", "a", None), ("say", (), (), ())):
            with self.subTest(deed=deed):
                self.assertIsNone(check_deed(deed))


if __name__ == "__main__":
    unittest.main()
