"""Promise 3: a text with its repeats written out, its names put in, means the same."""
import unittest

from bobbintexts.lace import read
from lacecase import LaceCase, bytes_of, text_of
from made_texts import made_text
from plain_reader import written_out


class ByHand(LaceCase):
    def assertSame(self, one, other):
        answer = read(bytes_of(text_of(*one)))
        self.assertEqual(answer[0], 0)
        self.assertEqual(answer, read(bytes_of(text_of(*other))))

    def test_a_repeat(self):
        self.assertSame(
            ["pairs 3", "twist 0 1", "repeat 3", "cross 0 2", "do 1 c t", "end", "twist 2 1"],
            ["pairs 3", "twist 0 1", *["cross 0 2", "do 1 c t"] * 3, "twist 2 1"],
        )

    def test_repeats_within_repeats(self):
        inner = ["cross 0 1", "repeat 4", "twist 1 2", "end"]
        outer = ["twist 0 1", "repeat 2", *inner, "end", "do 1 r"]
        whole = ["pairs 3", "repeat 3", *outer, "end"]
        self.assertSame(whole, ["pairs 3", *outer * 3])
        self.assertSame(whole, ["pairs 3", "repeat 3", "twist 0 1", *inner * 2, "do 1 r", "end"])
        self.assertSame(whole, ["pairs 3", *["twist 0 1", *["cross 0 1", *["twist 1 2"] * 4] * 2, "do 1 r"] * 3])

    def test_names(self):
        self.assertSame(
            ["pairs 4", "let a = c t", "let b = 2*a l", "do 1 r 3*b a", "row b 0 2"],
            ["pairs 4", "do 1 r" + " c t c t l" * 3 + " c t", "do 0 c t c t l", "do 2 c t c t l"],
        )

    def test_numbers(self):
        self.assertSame(
            ["pairs 4", "do 2 3*c 2*t l", "twist 3 4", "cross 1 3"],
            ["pairs 4", "do 2 c c c t t l", *["twist 3 1"] * 4, *["cross 1 1"] * 3],
        )

    def test_letters(self):
        self.assertSame(
            ["pairs 4", "do 1 c t l r"],
            ["pairs 4", "cross 1 1", "twist 1 1", "twist 2 1", "twist 1 1", "twist 2 1"],
        )

    def test_a_let_within_a_repeat(self):
        self.assertSame(
            ["pairs 4", "repeat 2", "let a = c l", "row a 0 2", "end", "do 1 2*a"],
            ["pairs 4", *["do 0 c l", "do 2 c l"] * 2, "do 1 c l c l"],
        )

    def test_repeats_that_work_nothing(self):
        self.assertSame(
            ["pairs 4", "repeat 99999", "let a = c", "repeat 99999", "end", "end", "do 1 a"],
            ["pairs 4", "do 1 c"],
        )


class MadeTexts(LaceCase):
    def test_written_out(self):
        compared = 0
        for seed in range(600):
            text = made_text(seed)
            answer = read(bytes_of(text))
            if answer[0] != 0:
                continue
            out = written_out(text)
            self.assertNotRegex(out, "let|row|repeat")
            if len(out) <= 16384:
                with self.subTest(seed=seed):
                    self.assertEqual(answer, read(bytes_of(out)))
                compared += 1
        self.assertGreater(compared, 200)


if __name__ == "__main__":
    unittest.main()
