"""Promise 2: what's written is read as the form of the same lace; and workings of 512 acts are written at once."""
import unittest

from bobbintexts.lace import read, write
from lacecase import LaceCase, bytes_of
from made_texts import made_text
from plain_reader import plain_read, written_out
from workings import acts_of_pairs, drawn_working, plain_form


class ReadAgain(LaceCase):
    def assertReadAsForm(self, pairs, acts):
        """Written and read again a working is its form, and that is written as the same text."""
        written = write(pairs, list(acts))
        form = plain_form(acts)
        self.assertEqual(written[0], 0)
        self.assertEqual(read(written[1:]), [0, pairs, *form])
        self.assertEqual(plain_read(bytes(written[1:]).decode("ascii")), [0, pairs, *form])
        self.assertEqual(write(pairs, form), written)

    def test_no_acts(self):
        for pairs in range(1, 33):
            self.assertReadAsForm(pairs, [])

    def test_one_act(self):
        for pairs in range(1, 33):
            for act in acts_of_pairs(pairs):
                self.assertReadAsForm(pairs, [act])

    def test_drawn_workings(self):
        for seed in range(500):
            self.assertReadAsForm(*drawn_working(seed, seed % 90))

    def test_drawn_workings_of_512_acts(self):
        for seed in range(20):
            self.assertReadAsForm(*drawn_working(seed, 512))

    def test_what_texts_mean(self):
        compared = 0
        for seed in range(400):
            text = made_text(seed)
            answer = read(bytes_of(text))
            if answer[0] == 0 and len(answer) <= 300:
                self.assertReadAsForm(answer[1], answer[2:])
                out = read(bytes_of(written_out(text)))
                self.assertEqual(write(out[1], out[2:]), write(answer[1], answer[2:]))
                compared += 1
        self.assertGreater(compared, 150)


class AtOnce(LaceCase):
    seconds = 5

    def assertWrittenAsForm(self, pairs, acts, form):
        self.assertEqual(len(acts), 512)
        written = write(pairs, acts)
        self.assertEqual(read(written[1:]), [0, pairs, *form])

    def test_all_alike(self):
        for act in [0, 31, 64, 94]:
            self.assertWrittenAsForm(32, [act] * 512, [act] * 512)

    def test_all_pairs_in_turn(self):
        turns = list(range(32)) * 16
        self.assertWrittenAsForm(32, turns, sorted(turns))

    def test_from_the_last_pair_down(self):
        turns = list(range(31, -1, -1)) * 16
        self.assertWrittenAsForm(32, turns, sorted(turns))

    def test_many_times_the_last_pair_then_the_others(self):
        turns = [k for k in range(31, -1, -1) for _ in range(16)]
        self.assertWrittenAsForm(32, turns, sorted(turns))
        self.assertWrittenAsForm(32, [31, 0] * 256, [0] * 256 + [31] * 256)
        self.assertWrittenAsForm(32, [94] * 256 + [0] * 256, [0] * 256 + [94] * 256)

    def test_acts_that_touch_from_the_last_pair_down(self):
        acts = [act for k in range(30, -1, -1) for act in (64 + k, k + 1)] * 8
        acts = (acts + [0] * 512)[:512]
        self.assertWrittenAsForm(32, acts, plain_form(acts))

    def test_crosses_and_twists_of_all_pairs(self):
        acts = (list(range(94, 63, -1)) + list(range(31, -1, -1))) * 9
        self.assertWrittenAsForm(32, acts[:512], plain_form(acts[:512]))

    def test_two_that_touch(self):
        self.assertWrittenAsForm(32, [94, 31] * 256, [94, 31] * 256)

    def test_drawn(self):
        for seed in range(10):
            pairs, acts = drawn_working(f"at once {seed}", 512)
            self.assertWrittenAsForm(pairs, acts, plain_form(acts))


if __name__ == "__main__":
    unittest.main()
