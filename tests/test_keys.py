"""Point 8: secrets and keys."""

import unittest

from tests.helpers import secret_with_key
from turnpike.money.keys import key_of


class KeysTest(unittest.TestCase):
    def test_the_least_and_the_greatest_secret(self):
        self.assertEqual(key_of(0), 12345)
        self.assertEqual(key_of(1), 1103527590)
        self.assertEqual(key_of(4294967295), 3191464396)

    def test_other_secrets(self):
        self.assertEqual(key_of(2), 2207042835)
        self.assertEqual(key_of(3), 3310558080)
        self.assertEqual(key_of(4), 119106029)
        self.assertEqual(key_of(1000000), 1000000 * 1103515245 % 4294967296 + 12345)

    def test_the_least_and_the_greatest_key(self):
        for key in (0, 1, 4294967295):
            with self.subTest(key=key):
                self.assertEqual(key_of(secret_with_key(key)), key)


if __name__ == "__main__":
    unittest.main()
