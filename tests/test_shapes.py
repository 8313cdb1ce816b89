"""Point 88: which trees are values and deeds."""

import unittest

from turnpike.texts.shapes import (
    is_act, is_deed, is_lock, is_move, is_opening, is_splice, is_state, is_step, is_thing, is_wish, is_word,
)

# The bounds of the kinds of numbers.
NUMBER = (0, 4294967295)
AMOUNT = (0, 10 ** 15)
HEIGHT = (0, 10 ** 12)
FREE = (-3 * 10 ** 15, 3 * 10 ** 15)
FLAG = "flag"

LOCK = (5, 40, 100, True)
STATE = (7, 3, -5, 65, (LOCK, (6, 1, 2, False)), False)
OPENING = (7, 1, 2, 40, 60, 10, 100)
SPLICE = (7, 1, 2, 300, 4, 5, 6, 7)
THING = (("publish", STATE), (1, 2), 9, 5, 0)
STEP = (("lock", 5, 40, 100), ("finish",))

OPENING_KINDS = (NUMBER, NUMBER, NUMBER, AMOUNT, AMOUNT, HEIGHT, HEIGHT)
SPLICE_KINDS = (NUMBER, NUMBER, NUMBER, HEIGHT, AMOUNT, AMOUNT, AMOUNT, AMOUNT)

# For each function: values, each with the kinds of its items. A kind is a pair of bounds, FLAG, or the function
# that tells of an item; None stands for the word at the front and for items that have tests of their own.
VALUES = {
    is_lock: [(LOCK, (NUMBER, AMOUNT, HEIGHT, FLAG))],
    is_state: [(STATE, (NUMBER, NUMBER, FREE, FREE, None, FLAG))],
    is_opening: [(OPENING, OPENING_KINDS)],
    is_splice: [(SPLICE, SPLICE_KINDS)],
    is_act: [
        (("pay", 1, 5), (None, NUMBER, AMOUNT)), (("open", OPENING), (None, is_opening)),
        (("publish", STATE), (None, is_state)), (("settle", 7), (None, NUMBER)),
        (("splice", SPLICE), (None, is_splice)), (("reveal", 5), (None, NUMBER)),
    ],
    is_thing: [(THING, (is_act, None, NUMBER, AMOUNT, NUMBER))],
    is_move: [
        (("lock", 5, 40, 100), (None, NUMBER, AMOUNT, HEIGHT)), (("paid", 0, 5), (None, NUMBER, NUMBER)),
        (("dropped", 0), (None, NUMBER)), (("back", 0), (None, NUMBER)), (("transfer", 5), (None, AMOUNT)),
        (("finish",), (None,)),
    ],
    is_word: [
        (("opening", OPENING), (None, is_opening)), (("step", 7, 3, STEP), (None, NUMBER, NUMBER, is_step)),
        (("answer", 7, 3), (None, NUMBER, NUMBER)), (("splice", SPLICE), (None, is_splice)),
        (("turn", 7), (None, NUMBER)),
    ],
    is_wish: [
        (("open", OPENING), (None, is_opening)), (("pay", 7, 5, 40, 100), (None, NUMBER, NUMBER, AMOUNT, HEIGHT)),
        (("give", 7, 0, 8, 40, 100), (None, NUMBER, NUMBER, NUMBER, AMOUNT, HEIGHT)),
        (("refuse", 7, 0), (None, NUMBER, NUMBER)), (("transfer", 7, 5), (None, NUMBER, AMOUNT)),
        (("finish", 7), (None, NUMBER)), (("splice", SPLICE), (None, is_splice)), (("leave", 7), (None, NUMBER)),
        (("invoice", 5, 40), (None, NUMBER, AMOUNT)),
    ],
    is_deed: [
        (("offer", THING), (None, is_thing)), (("say", 1, 2, ("turn", 7)), (None, NUMBER, NUMBER, is_word)),
        (("deliver", 0), (None, NUMBER)), (("lose", 0), (None, NUMBER)), (("copy", 0), (None, NUMBER)),
        (("block",), (None,)), (("tell", 1), (None, NUMBER)), (("wish", 1, ("leave", 7)), (None, NUMBER, is_wish)),
        (("stop", 1), (None, NUMBER)),
    ],
}
# Trees that are no values of any kind, and no flags and no numbers within any bounds.
STRANGE = ("a", "lock", None, (), (1,), ("a",), ((),), 10 ** 19, -10 ** 19)


def with_item(value, place, item):
    return value[:place] + (item,) + value[place + 1:]


class ValuesTest(unittest.TestCase):
    def check(self, function, expected, tree):
        with self.subTest(function=function.__name__, tree=tree):
            self.assertIs(function(tree), expected)

    def rows(self):
        return [(function, value, kinds) for function, rows in VALUES.items() for value, kinds in rows]

    def test_the_values(self):
        for function, value, kinds in self.rows():
            self.assertEqual(len(value), len(kinds))
            self.check(function, True, value)

    def test_an_item_more_and_an_item_less(self):
        for function, value, _ in self.rows():
            self.check(function, False, value[:-1])
            for item in (0, True, None, "a", (), value[-1]):
                self.check(function, False, (*value, item))

    def test_the_bounds_of_each_number(self):
        for function, value, kinds in self.rows():
            for place, kind in enumerate(kinds):
                if isinstance(kind, tuple):
                    least, greatest = kind
                    for number, expected in (
                        (least, True), (greatest, True), (least - 1, False), (greatest + 1, False),
                    ):
                        self.check(function, expected, with_item(value, place, number))

    def test_items_of_another_kind(self):
        for function, value, kinds in self.rows():
            for place, kind in enumerate(kinds):
                if kind is None:
                    continue
                for strange in STRANGE:
                    if kind is is_step and strange == ():
                        continue
                    self.check(function, False, with_item(value, place, strange))
                for item in (0, 1):
                    self.check(function, isinstance(kind, tuple), with_item(value, place, item))
                for item in (True, False):
                    self.check(function, kind == FLAG, with_item(value, place, item))

    def test_the_words_at_the_front(self):
        for function, value, kinds in self.rows():
            if kinds[0] is None and function is not is_state:
                for word in ("", "a", "locks", 0, True, None, (), (value[0],), value[0].upper()):
                    self.check(function, False, with_item(value, 0, word))

    def test_words_of_other_values(self):
        for value in (("settle", 7), ("paid", 0, 5), ("turn", 7), ("leave", 7), ("deliver", 0)):
            told = [function for function in (is_act, is_move, is_word, is_wish, is_deed) if function(value)]
            with self.subTest(value=value):
                self.assertEqual(len(told), 1)
        self.check(is_word, False, ("open", OPENING))
        self.check(is_act, False, ("opening", OPENING))
        self.check(is_wish, False, ("publish", STATE))
        self.check(is_deed, False, ("offer", ("settle", 7)))
        self.check(is_deed, False, ("wish", 1, ("turn", 7)))
        self.check(is_deed, False, ("say", 1, 2, ("leave", 7)))

    def test_trees_that_are_no_values(self):
        for function in [*VALUES, is_step]:
            for tree in (0, 5, -1, True, False, None, "a", "finish", "block", ((),), (None,), (("a",),), ((1,),)):
                self.check(function, False, tree)
            if function is not is_step:
                self.check(function, False, ())


class ManyItemsTest(unittest.TestCase):
    def test_the_locks_of_a_state(self):
        for many, expected in ((0, True), (1, True), (29, True), (30, True), (31, False)):
            with self.subTest(many=many):
                self.assertIs(is_state(with_item(STATE, 4, (LOCK,) * many)), expected)
        for locks in (LOCK, (LOCK, 5), (LOCK, ()), ((LOCK,),), 0, None, True, "a", (with_item(LOCK, 3, 1),)):
            with self.subTest(locks=locks):
                self.assertIs(is_state(with_item(STATE, 4, locks)), False)

    def test_the_hands_of_a_thing(self):
        for many, expected in ((0, True), (1, True), (3, True), (4, True), (5, False)):
            with self.subTest(many=many):
                self.assertIs(is_thing(with_item(THING, 1, tuple(range(many)))), expected)
        for hands, expected in (
            ((7, 7), True), ((4294967295, 0), True), ((4294967296,), False), ((-1,), False), ((True,), False),
            ((1, ()), False), (1, False), (None, False), ("a", False), (("a",), False),
        ):
            with self.subTest(hands=hands):
                self.assertIs(is_thing(with_item(THING, 1, hands)), expected)

    def test_the_moves_of_a_step(self):
        for many, expected in ((0, True), (1, True), (15, True), (16, True), (17, False)):
            step = (("finish",),) * many
            with self.subTest(many=many):
                self.assertIs(is_step(step), expected)
                self.assertIs(is_word(("step", 7, 3, step)), expected)
        for step in (("finish",), (("finish",), 5), (("finish",), ()), ((("finish",),),), (("paid", 0),)):
            with self.subTest(step=step):
                self.assertIs(is_step(step), False)

    def test_a_value_deep_inside(self):
        for act, expected in ((("open", OPENING), True), (("open", with_item(OPENING, 3, -1)), False)):
            with self.subTest(act=act):
                self.assertIs(is_act(act), expected)
                self.assertIs(is_thing(with_item(THING, 0, act)), expected)
                self.assertIs(is_deed(("offer", with_item(THING, 0, act))), expected)
        deep = ()
        for _ in range(19):
            deep = (deep,)
        for function in [*VALUES, is_step]:
            self.assertIs(function(deep), False)
            self.assertIs(function((deep, deep)), False)


if __name__ == "__main__":
    unittest.main()
