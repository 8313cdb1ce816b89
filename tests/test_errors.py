"""The errors."""

import unittest

from turnpike import errors

NAMES = [
    "OutOfBounds", "InvalidPurses", "TooMuchMoney", "InvalidSettings", "NoSuchHand", "IsHonest",
    "UnknownLetter", "UnknownParty", "NotNow", "InvalidDeed", "InvalidText",
]


class ErrorsTest(unittest.TestCase):
    def test_the_base_class_is_a_value_error(self):
        self.assertTrue(issubclass(errors.TurnpikeError, ValueError))

    def test_each_error_is_a_turnpike_error(self):
        for name in NAMES:
            with self.subTest(name=name):
                self.assertTrue(issubclass(getattr(errors, name), errors.TurnpikeError))

    def test_the_errors_are_different(self):
        found = {getattr(errors, name) for name in NAMES}
        self.assertEqual(len(found), len(NAMES))
        self.assertNotIn(errors.TurnpikeError, found)

    def test_each_error_can_be_raised_and_caught(self):
        for name in NAMES:
            if name != "InvalidText":
                with self.subTest(name=name):
                    with self.assertRaises(errors.TurnpikeError):
                        raise getattr(errors, name)("why")

    def test_invalid_text_tells_its_line(self):
        for line in (1, 2, 77):
            with self.subTest(line=line):
                with self.assertRaises(errors.InvalidText) as caught:
                    raise errors.InvalidText(line)
                self.assertEqual(caught.exception.line, line)


if __name__ == "__main__":
    unittest.main()
