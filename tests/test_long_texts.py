"""Points 79 and 87 to 93 over long runs: towns in which much happened, as scripts, texts and forks."""

import unittest

from tests.helpers import party_fields, town_fields
from tests.streets import Street
from turnpike.party.party import copy_party
from turnpike.texts.saved import party_text, read_party, read_town, town_text
from turnpike.texts.script import read_script, run_script, write_script
from turnpike.texts.shapes import is_deed


class Recorder:
    """Keeps the deeds that are done."""

    def __init__(self):
        self.deeds = []

    def before(self, street, deed):
        pass

    def after(self, street, deed, did):
        self.deeds.append(deed)


class LongTextTest(unittest.TestCase):
    def run_street(self, seed):
        recorder = Recorder()
        street = Street(seed, honest=1 + seed % 3, watch=recorder)
        start = street.town.fork()
        for _ in range(1500):
            street.advance()
        return street, start, recorder.deeds

    def test_a_script_of_all_deeds(self):
        for seed in range(3):
            street, start, deeds = self.run_street(seed)
            text = write_script(deeds)
            with self.subTest(seed=seed):
                self.assertTrue(all([is_deed(deed) for deed in deeds]))
                self.assertEqual(read_script(text), list(enumerate(deeds, start=1)))
                self.assertIsNone(run_script(start, text))
                self.assertEqual(town_fields(start), town_fields(street.town))

    def test_a_text_in_the_middle(self):
        for seed in range(3, 6):
            street, start, deeds = self.run_street(seed)
            for deed in deeds[:700]:
                start.do(deed)
            found = read_town(town_text(start))
            fork = start.fork()
            with self.subTest(seed=seed):
                self.assertEqual(town_fields(found), town_fields(start))
                for deed in deeds[700:]:
                    found.do(deed)
                    fork.do(deed)
                self.assertEqual(town_fields(found), town_fields(street.town))
                self.assertEqual(town_text(fork), town_text(street.town))
                self.assertEqual(town_text(start.fork()), town_text(start))

    def test_parties_that_are_read_have_stopped(self):
        street, _, _ = self.run_street(8)
        for party in street.town.parties.values():
            found = read_party(party_text(party))
            stopped = copy_party(party)
            stopped.stop()
            self.assertEqual(party_fields(found), party_fields(stopped))


if __name__ == "__main__":
    unittest.main()
