"""Promise 1 on many made texts: read answers what a slow second reader answers."""
import unittest

from bobbintexts.lace import read
from lacecase import LaceCase, bytes_of
from made_texts import heavy_text, made_text, slot_text, spoilt_text
from plain_reader import plain_read


class BesidePlainReader(LaceCase):
    def compare(self, make, seeds):
        """Which first numbers and kinds of fault came, each with how often."""
        seen = {}
        for seed in seeds:
            text = make(seed)
            answer = read(bytes_of(text))
            if answer != plain_read(text):
                self.fail(f"of {text!r}: {answer[:3]}, not {plain_read(text)[:3]}")
            key = answer[1] if answer[0] == -5 else 0
            seen[key] = seen.get(key, 0) + 1
        return seen

    def test_made(self):
        seen = self.compare(made_text, range(1000))
        self.assertGreater(seen[0], 900)

    def test_heavy(self):
        seen = self.compare(heavy_text, range(1000))
        self.assertGreater(min(seen[0], seen[5]), 200)

    def test_spoilt(self):
        seen = self.compare(spoilt_text, range(4000))
        self.assertEqual(sorted(seen), [0, 1, 2, 3, 4, 5])

    def test_slots(self):
        seen = self.compare(slot_text, range(6000))
        self.assertEqual(sorted(seen), [0, 1, 2, 3, 4, 5])


if __name__ == "__main__":
    unittest.main()
