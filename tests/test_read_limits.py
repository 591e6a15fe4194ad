"""Promise 1: 4,096 acts, 16,384 bytes, and answers that come at once."""
import unittest

from bobbintexts.lace import read
from lacecase import LaceCase, bytes_of, text_of


class TooManyActs(LaceCase):
    def test_4096_and_4097_of_one_line(self):
        self.assertMeans(["pairs 2", "twist 0 4096"], 2, [0] * 4096)
        self.assertFault(["pairs 2", "twist 0 4097"], 5, 1)
        self.assertMeans(["pairs 2", "cross 0 4096"], 2, [64] * 4096)
        self.assertFault(["pairs 2", "cross 0 4097"], 5, 1)
        self.assertMeans(["pairs 2", "do 0 4096*c"], 2, [64] * 4096)
        self.assertFault(["pairs 2", "do 0 4097*c"], 5, 1)
        self.assertMeans(["pairs 2", "do 0 2048*t"], 2, [0, 1] * 2048)
        self.assertFault(["pairs 2", "do 0 2048*t r"], 5, 1)
        self.assertFault(["pairs 2", "do 0 l 2048*t"], 5, 1)

    def test_4096_and_4097_of_names(self):
        lets = ["pairs 4", "let a = 1024*c", "let b = 2*a", "let e = 2*b"]
        self.assertMeans([*lets, "do 0 e"], 4, [64] * 4096)
        self.assertMeans([*lets, "row b 0 2"], 4, [64] * 2048 + [66] * 2048)
        self.assertFault([*lets, "do 0 e l"], 5, 4)
        self.assertFault([*lets, "let f = b c", "row f 0 2"], 5, 5)

    def test_4096_and_4097_of_a_repeat(self):
        self.assertMeans(["pairs 2", "repeat 4096", "twist 1 1", "end"], 2, [1] * 4096)
        self.assertFault(["pairs 2", "repeat 4097", "twist 1 1", "end"], 5, 2)
        body = ["twist 0 1", "cross 0 1"]
        self.assertMeans(["pairs 2", "repeat 2048", *body, "end"], 2, [0, 64] * 2048)
        self.assertFault(["pairs 2", "repeat 2049", *body, "end"], 5, 2)

    def test_line_by_line(self):
        self.assertMeans(["pairs 2", "twist 0 4095", "twist 1 1"], 2, [0] * 4095 + [1])
        self.assertFault(["pairs 2", "twist 0 4096", "twist 1 1"], 5, 2)
        self.assertFault(["pairs 2", "twist 0 4095", "do 0 t"], 5, 2)
        self.assertFault(["pairs 2", "twist 0 4096", "let a = c", "repeat 1", "end", "do 0 a", "twist 0 1"], 5, 5)

    def test_a_line_behind_4096_that_works_nothing(self):
        self.assertMeans(["pairs 2", "twist 0 4096", "let a = c", "repeat 9", "end"], 2, [0] * 4096)

    def test_within_one_repeat(self):
        body = ["repeat 99999", "twist 0 1", "twist 1 1", "cross 0 1", "end"]
        # 4,096 is 3 times 1,365 and 1: behind that many rounds one line more fits.
        self.assertFault(["pairs 2", *body], 5, 3)
        for before, line in [(1, 3), (2, 5), (3, 4), (4, 3), (4094, 5), (4095, 4), (4096, 3), (4097, 1)]:
            with self.subTest(before=before):
                self.assertFault(["pairs 2", f"twist 0 {before}", *body], 5, line)

    def test_at_a_later_time_round(self):
        lines = ["pairs 2", "repeat 4", "twist 0 1000", "cross 0 {}", "end", "twist 1 1"]
        for crosses, line in [(24, 5), (25, 3), (32, 3), (33, 2), (365, 2), (366, 3), (548, 3), (549, 2), (1048, 2),
                              (1049, 3), (2096, 3), (2097, 2), (3096, 2), (3097, 3)]:
            with self.subTest(crosses=crosses):
                self.assertFault([words.format(crosses) for words in lines], 5, line)
        self.assertMeans([words.format(24) for words in lines[:-1]], 2, ([0] * 1000 + [64] * 24) * 4)

    def test_in_the_first_time_round(self):
        lines = ["pairs 2", "repeat 2", "twist 0 4000", "cross 0 97", "twist 0 9", "end", "twist 1 1"]
        self.assertFault(lines, 5, 3)

    def test_repeats_in_repeats(self):
        lines = ["pairs 2", "repeat 10", "twist 0 {}", "repeat 4", "twist 1 100", "cross 0 2", "end", "cross 0 1", "end"]
        # A round has 509 acts with 100 at first: behind 8 rounds there are 4,072, and 24 are left.
        self.assertFault([words.format(100) for words in lines], 5, 2)
        # A round has 437 acts with 28 at first: behind 9 rounds there are 3,933, 163 are left, so 28 + 100 + 2 fit.
        self.assertFault([words.format(28) for words in lines], 5, 4)
        # A round has 683 acts with 274 at first: behind 5 rounds there are 3,415, 681 are left, so 274 + 407 fit.
        self.assertFault([words.format(274) for words in lines], 5, 5)
        # With 3,688 at first, all of the first round fits but its last act.
        self.assertFault([words.format(3688) for words in lines], 5, 7)

    def test_inner_repeat_at_a_later_time(self):
        # The outer round has 1 + 3 * 341 + 1 = 1,025 acts; behind 3 there are 3,075, and 1,021 are left.
        lines = ["pairs 2", "repeat 4", "twist 0 1", "repeat 3", "twist 1 340", "cross 0 1", "end", "twist 0 1", "end"]
        self.assertFault(lines, 5, 4)
        # One act fewer a round: 3,072 behind 3, 1,024 left, and the fourth fits just so.
        lines[7] = "let a = c"
        self.assertMeans(lines, 2, ([0] + ([1] * 340 + [64]) * 3) * 4)

    def test_behind_a_repeat(self):
        self.assertFault(["pairs 2", "repeat 4096", "twist 0 1", "end", "let a = c", "row a 0"], 5, 5)


class VeryManyActs(LaceCase):
    seconds = 5
    LETS = ["let a = 99999*c", "let b = 99999*a 99999*a", "let e = 99999*b", "let f = 2*e 99999*e"]

    def deep_lets(self):
        """Names each of the one before, as many as there is room for, each 99,999 times."""
        names = [x + y + z for x in "abde" for y in "abdefghijk" for z in "abdefghijk"]
        return ["let aaa = 99999*c"] + [f"let {name} = 99999*{last}" for last, name in zip(names, names[1:])], names[-1]

    def test_not_worked(self):
        self.assertMeans(["pairs 4", *self.LETS], 4, [])
        self.assertMeans(["pairs 4", *self.LETS, "twist 0 1"], 4, [0])

    def test_worked(self):
        for name in "abef":
            self.assertFault(["pairs 4", *self.LETS, "twist 0 1", f"do 0 {name}"], 5, 6)
            self.assertFault(["pairs 4", *self.LETS, "twist 0 1", f"row {name} 0 2", "twist 1 1"], 5, 6)

    def test_worked_in_a_repeat(self):
        self.assertFault(["pairs 4", *self.LETS, "repeat 99999", "twist 0 1", "do 0 f", "end"], 5, 7)

    def test_deep_names(self):
        lets, last = self.deep_lets()
        self.assertLessEqual(len(text_of("pairs 4", *lets, f"do 0 {last}")), 16384)
        self.assertMeans(["pairs 4", *lets], 4, [])
        self.assertFault(["pairs 4", *lets, f"do 0 {last}"], 5, len(lets) + 1)

    def test_deep_names_of_one_act(self):
        names = [x + y for x in "abefghijkmnopqsuvwxyz" for y in "abefghijkmnopqsuvwxyz"]
        names += ["q" + name for name in names]
        lets = ["let aa = c"] + [f"let {name} = {last}" for last, name in zip(names, names[1:])]
        self.assertGreater(len(lets), 800)
        self.assertLess(len(text_of(*lets)), 16000)
        self.assertMeans(["pairs 4", *lets, f"do 1 {names[-1]}"], 4, [65])

    def test_4097_acts_of_a_name_are_not_cut(self):
        lets = ["let a = 4097*c", "let b = l a"]
        self.assertFault(["pairs 4", *lets, "do 0 a"], 5, 3)
        self.assertFault(["pairs 4", *lets, "do 0 b"], 5, 3)
        self.assertFault(["pairs 4", *lets, "row a 0"], 5, 3)
        self.assertMeans(["pairs 4", *lets], 4, [])

    def test_a_name_of_4096_acts_keeps_its_last(self):
        self.assertMeans(["pairs 4", "let a = 4095*c l", "do 1 a"], 4, [65] * 4095 + [1])
        self.assertMeans(["pairs 4", "let a = 4095*c l", "let b = a", "row b 1"], 4, [65] * 4095 + [1])


class NothingWorkedOften(LaceCase):
    seconds = 5

    def nested(self, *body):
        return ["pairs 2"] + ["repeat 99999"] * 8 + list(body) + ["end"] * 8

    def test_no_lines(self):
        self.assertMeans(self.nested(), 2, [])
        self.assertMeans(self.nested() + ["twist 0 1"], 2, [0])

    def test_lets(self):
        self.assertMeans(self.nested("let a = 99999*c", "let b = 99999*a") + ["do 0 l"], 2, [0])

    def test_many_repeats_side_by_side(self):
        lines = ["pairs 2"] + ["repeat 99999"] * 7 + ["repeat 99999", "end"] * 600 + ["end"] * 7
        self.assertMeans(lines + ["cross 0 1"], 2, [64])

    def test_beside_lines_that_work(self):
        lines = ["pairs 2", "repeat 4096", "twist 0 1", *["repeat 99999", "end"] * 700, "end"]
        self.assertMeans(lines, 2, [0] * 4096)
        lines[1] = "repeat 99999"
        self.assertFault(lines, 5, 2)

    def test_one_act_deep_within(self):
        self.assertFault(self.nested("twist 0 1"), 5, 9)
        self.assertMeans(["pairs 2"] + ["repeat 1"] * 8 + ["twist 0 1"] + ["end"] * 8, 2, [0])

    def test_no_work_behind_too_many(self):
        lines = self.nested("twist 0 1") + self.nested()[1:]
        self.assertFault(lines, 5, 9)


class Sizes(LaceCase):
    def test_16384_bytes_and_one_more(self):
        for name, size, answer in [("ab", 16383, [0, 4, 64]), ("abb", 16384, [0, 4, 64]), ("abbb", 16385, [-5, 1, 0])]:
            text = text_of("pairs 4", "cross 0 1", f"let {name} = c" + " t" * 8177)
            self.assertEqual(len(text), size)
            self.assertEqual(read(bytes_of(text)), answer)

    def test_nothing_is_looked_at(self):
        for size in [16385, 16386, 17000]:
            self.assertEqual(read([10] * size), [-5, 1, 0])
            self.assertEqual(read(bytes_of("pairs 4\n" + "end\n" * size)[:size]), [-5, 1, 0])
            self.assertEqual(read(bytes_of("pairs 4\n" + "let a = c\n" * size)[:size]), [-5, 1, 0])
            self.assertEqual(read([255] * size), [-5, 1, 0])

    def test_16384_bytes_are_looked_at(self):
        self.assertEqual(read(bytes_of("pairs 4\n" + "end\n" * 4094)), [-5, 4, 1])
        self.assertEqual(read(bytes_of("pairs 4\n" + "x" * 16376)), [-5, 1, 1])
        self.assertEqual(read([255] * 16384), [-5, 1, 0])

    def test_many_lines(self):
        count = (16384 - 8) // 10
        text = "pairs 4\n" + "twist 3 1\n" * count
        self.assertEqual(read(bytes_of(text)), [0, 4] + [3] * count)

    def test_one_long_line(self):
        text = "pairs 4\ndo 0" + " l" * 4096 + "\n"
        self.assertEqual(read(bytes_of(text)), [0, 4] + [0] * 4096)
        text = "pairs 4\ndo 0" + " l" * 8180 + "\n"
        self.assertEqual(read(bytes_of(text)), [-5, 5, 1])

    def test_long_words(self):
        self.assertEqual(read(bytes_of("pairs 4\ntwist 0 " + "9" * 16000 + "\n")), [-5, 1, 1])
        self.assertEqual(read(bytes_of("pairs 4\ndo 0 " + "a" * 16000 + "\n")), [-5, 1, 1])
        self.assertEqual(read(bytes_of("pairs 4\ndo 0 " + "2*" * 8000 + "c\n")), [-5, 1, 1])
        self.assertEqual(read(bytes_of("pairs 4\n" + " " * 16000 + "\n")), [-5, 1, 1])

    def test_a_long_row(self):
        text = "pairs 4\nlet a = c\nrow a" + " 0" * 8000 + "\n"
        self.assertEqual(read(bytes_of(text)), [-5, 3, 2])


if __name__ == "__main__":
    unittest.main()
