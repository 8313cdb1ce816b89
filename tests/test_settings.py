"""Point 16: settings."""

import unittest

from tests.helpers import PLAIN_SETTINGS, settings_with
from turnpike.errors import InvalidSettings, TurnpikeError
from turnpike.money.settings import Settings

MUCH = 10 ** 15
LONG = 10 ** 12

RANGES = {
    "fee": (1, MUCH), "lead": (0, LONG), "margin": (0, LONG), "delay": (0, LONG), "far": (0, LONG),
    "least": (0, MUCH), "farthest": (0, LONG), "reveal_lead": (0, LONG), "base": (0, MUCH),
    "per_mille": (0, 100000), "gap": (0, LONG),
}


class SettingsTest(unittest.TestCase):
    def test_the_fields(self):
        settings = Settings(**PLAIN_SETTINGS)
        for name, number in PLAIN_SETTINGS.items():
            with self.subTest(name=name):
                self.assertEqual(getattr(settings, name), number)

    def test_each_number_at_its_least_and_its_greatest(self):
        for name, bounds in RANGES.items():
            for number in bounds:
                with self.subTest(name=name, number=number):
                    self.assertEqual(getattr(settings_with(**{name: number}), name), number)

    def test_each_number_one_beyond(self):
        for name, (least, greatest) in RANGES.items():
            for number in (least - 1, greatest + 1):
                with self.subTest(name=name, number=number):
                    with self.assertRaises(InvalidSettings):
                        settings_with(**{name: number})

    def test_each_number_far_beyond(self):
        for name in RANGES:
            for number in (-10 ** 18, 10 ** 18):
                with self.subTest(name=name, number=number):
                    with self.assertRaises(TurnpikeError):
                        settings_with(**{name: number})

    def test_all_least_and_all_greatest(self):
        for at in (0, 1):
            numbers = {name: bounds[at] for name, bounds in RANGES.items()}
            settings = Settings(**numbers)
            self.assertEqual({name: getattr(settings, name) for name in RANGES}, numbers)


class TollTest(unittest.TestCase):
    def test_the_toll(self):
        toll = settings_with(base=3, per_mille=1, gap=2).toll
        self.assertEqual(toll, (3, 1, 2))
        self.assertIs(type(toll), tuple)

    def test_the_least_and_the_greatest_toll(self):
        self.assertEqual(settings_with(base=0, per_mille=0, gap=0).toll, (0, 0, 0))
        self.assertEqual(settings_with(base=MUCH, per_mille=100000, gap=LONG).toll, (MUCH, 100000, LONG))


class EqualityTest(unittest.TestCase):
    def test_equal_fields(self):
        self.assertTrue(Settings(**PLAIN_SETTINGS) == Settings(**PLAIN_SETTINGS))
        self.assertFalse(Settings(**PLAIN_SETTINGS) != Settings(**PLAIN_SETTINGS))

    def test_one_field_differs(self):
        settings = Settings(**PLAIN_SETTINGS)
        for name, number in PLAIN_SETTINGS.items():
            with self.subTest(name=name):
                other = settings_with(**{name: number + 1})
                self.assertFalse(settings == other)
                self.assertFalse(other == settings)
                self.assertTrue(settings != other)

    def test_fields_that_are_exchanged(self):
        self.assertFalse(settings_with(lead=1, margin=2) == settings_with(lead=2, margin=1))

    def test_values_that_are_no_settings(self):
        settings = Settings(**PLAIN_SETTINGS)
        others = (None, 5, "settings", (), tuple(PLAIN_SETTINGS.values()), list(PLAIN_SETTINGS.values()), PLAIN_SETTINGS)
        for other in others:
            with self.subTest(other=other):
                self.assertFalse(settings == other)
                self.assertFalse(other == settings)
                self.assertTrue(settings != other)

    def test_another_object_with_the_same_fields(self):
        class Lookalike:
            def __init__(self):
                for name, number in PLAIN_SETTINGS.items():
                    setattr(self, name, number)

        self.assertFalse(Settings(**PLAIN_SETTINGS) == Lookalike())


if __name__ == "__main__":
    unittest.main()
