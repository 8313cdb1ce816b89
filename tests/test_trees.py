"""Points 86 and 87: trees and their texts."""

import random
import unittest

from turnpike.errors import InvalidText
from turnpike.texts.trees import read_tree, write_tree

# Each tree has just this text.
PAIRS = (
    (0, "0"), (7, "7"), (10, "10"), (-1, "-1"), (-10, "-10"), (10 ** 19 - 1, "9" * 19), (10 ** 20 - 1, "9" * 20),
    (10 ** 19, "1" + "0" * 19), (-(10 ** 20 - 1), "-" + "9" * 20), (True, "T"), (False, "F"), (None, "N"),
    ("a", "a"), ("z", "z"), ("pay", "pay"), ("t", "t"), ("abcdefghijklmnopqrstuvwxyz",) * 2, ((), "()"),
    ((1,), "(1)"), ((1, 2), "(1 2)"), (((), ()), "(() ())"), ((True, False, None, "n", -3), "(T F N n -3)"),
    (("publish", (7, 0, -1, 1001, ((5, 3, 9, True),), False)), "(publish (7 0 -1 1001 ((5 3 9 T)) F))"),
    ((((((),),),),), "((((()))))"), ((1, (2, (3, 4), 5), ((6,),)), "(1 (2 (3 4) 5) ((6)))"),
)
WRONG = (
    "", " ", "  ", "1 ", " 1", "1 2", "T ", "( 1)", "(1 )", "(1  2)", "( )", "()()", "() ()", "(", ")", ")(", "(()",
    "())", "(1", "1)", "((1)", "(1))", "(1(2))", "((1)2)", "(1)2", "a(1)", "(,)", "(1,2)", "[1]", "(1\t2)", "(1\n2)",
    "1\n", "\n", "A", "B", "Ta", "aT", "TF", "TT", "t1", "a1", "1a", "1q", "True", "NONE", "none!", "a-b", "a_b", "a.b",
    "'a'", '"a"', "#a", "-0", "00", "01", "007", "-01", "+1", "--1", "-", "1-", "1.0", "1e5", "1_000", "0x1", "0b1",
    "- 1", "-a", "-T", "(-)", "1" * 21, "-" + "1" * 21, "0" * 20, "0" * 21, "1" * 5000, "\u0663", "\u00b2", "1\u0663",
    "\uff11", "\u00e9", "\u0131", "a\u00e9", "\u00a0", "(1\u00a02)", "1\r", "\ufeff1", "\x00", "T\x00", "(T(", "(T F",
    "T F)", "((", "))", "((((",
)


def nested(depth):
    """Return a tree with this depth, and its text."""
    tree = ()
    for _ in range(depth - 1):
        tree = (tree,)
    return tree, "(" * depth + ")" * depth


class TextTest(unittest.TestCase):
    def check_wrong(self, text):
        with self.subTest(text=text[:40]):
            for line in (1, 2, 77):
                with self.assertRaises(InvalidText) as caught:
                    read_tree(text, line=line)
                self.assertEqual(caught.exception.line, line)

    def test_each_tree_has_its_text(self):
        for tree, text in PAIRS:
            with self.subTest(text=text):
                self.assertEqual(write_tree(tree), text)
                found = read_tree(text)
                self.assertEqual((found, type(found)), (tree, type(tree)))
                self.assertEqual(write_tree(found), text)

    def test_truth_values_are_read_as_such(self):
        self.assertIs(read_tree("T"), True)
        self.assertIs(read_tree("F"), False)
        self.assertIsNone(read_tree("N"))
        first, second, third = read_tree("(T 1 (F 0))")
        self.assertEqual((first is True, type(second), third[0] is False, type(third[1])), (True, int, True, int))

    def test_texts_of_no_tree(self):
        for text in WRONG:
            self.check_wrong(text)

    def test_the_line_is_1_if_none_is_given(self):
        with self.assertRaises(InvalidText) as caught:
            read_tree("01")
        self.assertEqual(caught.exception.line, 1)

    def test_depths(self):
        for depth in (1, 2, 19, 20):
            tree, text = nested(depth)
            with self.subTest(depth=depth):
                self.assertEqual(write_tree(tree), text)
                self.assertEqual(read_tree(text), tree)
        for depth in (21, 22, 300, 100000):
            self.check_wrong("(" * depth + ")" * depth)
            self.check_wrong("(" * depth)
        self.check_wrong("(" * 20 + "1 ()" + ")" * 20)
        self.assertIsInstance(read_tree("(" * 20 + "1 2" + ")" * 20), tuple)
        # Tuples beside one another are not nested.
        self.assertEqual(len(read_tree("(" + " ".join(["()"] * 50) + ")")), 50)

    def test_what_is_beyond_the_limits_is_written_all_the_same(self):
        self.assertEqual(write_tree(10 ** 20), "1" + "0" * 20)
        self.assertEqual(write_tree(nested(21)[0]), nested(21)[1])

    def test_every_single_character(self):
        trees = {character: character for character in "abcdefghijklmnopqrstuvwxyz"}
        trees.update({str(digit): digit for digit in range(10)})
        trees.update({"T": True, "F": False, "N": None})
        for code in range(256):
            character = chr(code)
            if character in trees:
                self.assertEqual(read_tree(character), trees[character])
            else:
                self.check_wrong(character)

    def random_tree(self, chance, depth=1):
        if depth < 6 and chance.random() < 0.5:
            return tuple([self.random_tree(chance, depth + 1) for _ in range(chance.randint(0, 4))])
        return chance.choice([
            True, False, None, 0, 1, -1, chance.randint(-10 ** 20 + 1, 10 ** 20 - 1), "a", "t", "f", "n", "reveal",
        ])

    def test_many_trees(self):
        chance = random.Random(1)
        for _ in range(1000):
            tree = self.random_tree(chance)
            text = write_tree(tree)
            self.assertEqual(repr(read_tree(text)), repr(tree))

    def test_a_text_that_is_read_is_the_text_of_what_was_read(self):
        # Short texts of these characters, most of which are no text of a tree.
        chance = random.Random(2)
        good = 0
        for _ in range(20000):
            text = "".join([chance.choice("(()) -01T a") for _ in range(chance.randint(1, 7))])
            try:
                tree = read_tree(text)
            except InvalidText:
                continue
            good += 1
            self.assertEqual(write_tree(tree), text)
        self.assertGreater(good, 200)


if __name__ == "__main__":
    unittest.main()
