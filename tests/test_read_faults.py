"""Promise 1: the first fault of a text that has one, by its words, names, pairs and repeats."""
import unittest

from bobbintexts.lace import read
from lacecase import LaceCase, bytes_of, text_of

RESERVED = ["pairs", "let", "do", "row", "twist", "cross", "repeat", "end"]


class Words(LaceCase):
    def test_blanks(self):
        for line in ["twist 0 1", "let b = c a", "do 0 c a", "row a 0 2", "cross 0 1", "repeat 2", "end"]:
            self.assertLineFault(" " + line, 1)
            self.assertLineFault(line + " ", 1)
            for place in [k for k, sign in enumerate(line) if sign == " "]:
                self.assertLineFault(line[:place] + " " + line[place:], 1)

    def test_blanks_left_out(self):
        for line in ["twist0 1", "twist 01", "letb = c", "let b= c", "let b =c", "do0 c", "do 0c", "rowa 0", "row a0",
                     "repeat2"]:
            self.assertLineFault(line, 1)

    def test_blanks_of_the_first_line(self):
        for line in [" pairs 4", "pairs 4 ", "pairs  4", "pairs4", ""]:
            self.assertFault([line], 1, 0)

    def test_empty_lines(self):
        self.assertLineFault("", 1)
        self.assertLineFault(" ", 1)
        self.assertLineFault("  ", 1)

    def test_bytes_that_stand_for_nothing(self):
        meant = set(b"abcdefghijklmnopqrstuvwxyz0123456789*= \n")
        for byte in range(256):
            if byte in meant:
                continue
            with self.subTest(byte=byte):
                head = bytes_of(text_of("pairs 4", "let a = c"))
                for line in [[byte], b"do 0 c%c", b"do 0 %c", b"do 0 %c*c", b"row %c 0", b"row a %c", b"let %c = c",
                             b"let b%cb = c", b"twist %c 1", b"twist 0 %c", b"twist 0 1%c", b"repeat %c", b"end%c",
                             b"let b %c c", b"do 0%cc", b"do 0 2%cc"]:
                    line = line if isinstance(line, list) else list(line % byte)
                    self.assertEqual(read(head + line + [10]), [-5, 1, 2])
                self.assertEqual(read(list(b"pairs 4") + [byte, 10]), [-5, 1, 0])
                self.assertEqual(read(list(b"pairs ") + [byte, 10]), [-5, 1, 0])

    def test_other_signs_in_place(self):
        for line in ["do 0 =", "do 0 *", "do = c", "do * c", "row = 0", "let = = c", "let b * c", "=", "*", "7",
                     "twist 0 =", "twist * 1", "repeat *", "end=", "a", "c", "2*c", "do 0 c=", "let b=c", "do 0 c*"]:
            self.assertLineFault(line, 1)

    def test_first_words(self):
        for line in ["Twist 0 1", "twists 0 1", "twis 0 1", "stitch a 0", "a 0", "0 twist 1"]:
            self.assertLineFault(line, 1)

    def test_words_too_few_or_too_many(self):
        for line in ["let", "let b", "let b =", "let b c", "do", "do 0", "do c", "row", "row a", "row 0", "twist",
                     "twist 0", "cross", "cross 0", "repeat", "twist 0 1 1", "cross 0 1 1", "repeat 2 2", "end 1",
                     "end end", "repeat 2 end", "do 0 1 c", "let b = = c", "let b b = c"]:
            self.assertLineFault(line, 1)


class Numbers(LaceCase):
    def test_no_0_before_others(self):
        for line in ["twist 00 1", "twist 01 1", "twist 0 01", "cross 01 1", "cross 0 01", "do 00 c", "do 01 c",
                     "row a 00", "row a 0 02", "do 0 01*c", "let b = 02*c", "repeat 02", "do 0 00*c"]:
            self.assertLineFault(line, 1)
        self.assertFault(["pairs 04"], 1, 0)

    def test_0_is_a_number(self):
        self.assertLineFits("twist 0 1", [0])
        self.assertLineFits("cross 0 1", [64])
        self.assertLineFits("do 0 c", [64])
        self.assertLineFits("row a 0", [64, 0, 1])

    def test_0_where_1_is_the_least(self):
        for line in ["twist 0 0", "cross 0 0", "repeat 0", "do 0 0*c", "do 0 0*a", "let b = 0*c", "do 0 c 0*c"]:
            self.assertLineFault(line, 1)

    def test_99999_is_the_greatest(self):
        self.assertLineFits("let b = 99999*c", [])
        self.assertMeans(["pairs 1", "repeat 99999", "end"], 1, [])
        for line in ["twist 99999 1", "cross 99999 1", "do 99999 c", "row a 99999", "row a 0 99999"]:
            self.assertLineFault(line, 3)
        for line in ["twist 0 99999", "cross 0 99999", "do 0 99999*c", "do 0 99999*a"]:
            self.assertLineFault(line, 5)

    def test_100000_is_no_number(self):
        for number in ["100000", "999999", "4294967296", "1" * 5000]:
            for line in ["twist N 1", "twist 0 N", "cross N 1", "cross 0 N", "do N c", "do 0 N*c", "row a N",
                         "row a 0 N", "let b = N*c", "repeat N"]:
                self.assertLineFault(line.replace("N", number), 1)

    def test_no_digits(self):
        for line in ["twist -1 1", "twist +1 1", "twist 0 1_0", "twist x 1", "twist 0 c", "do 1x c", "do x c",
                     "row a b", "row a 0x", "repeat x", "repeat 1x", "do 0 x1*c", "twist 1.0 1", "repeat 2*2"]:
            self.assertLineFault(line, 1)

    def test_times_in_front(self):
        for line in ["do 0 *c", "do 0 2*", "do 0 2**c", "do 0 2*3*c", "do 0 2c", "do 0 c*2", "do 0 2 *c",
                     "do 0 2* c", "do 0 a*c", "do 0 2*2", "row 2*a 0", "row a 2*0", "let 2*b = c", "do 2*0 c"]:
            self.assertLineFault(line, 1)


class Pairs(LaceCase):
    def test_how_many(self):
        self.assertFault(["pairs 0"], 1, 0)
        self.assertMeans(["pairs 1"], 1, [])
        self.assertMeans(["pairs 9"], 9, [])
        self.assertMeans(["pairs 32"], 32, [])
        self.assertFault(["pairs 33"], 1, 0)
        self.assertFault(["pairs 99999"], 1, 0)
        self.assertFault(["pairs 100000"], 1, 0)

    def test_words(self):
        for line in ["pairs", "pairs 4 4", "pairs x", "pairs -1", "pairs 4x", "pair 4", "4 pairs"]:
            self.assertFault([line], 1, 0)

    def test_the_first_line_is_a_pairs_line(self):
        for line in ["let b = c", "do 0 c", "row a 0", "twist 0 1", "cross 0 1", "repeat 2", "end"]:
            self.assertFault([line, "pairs 4"], 1, 0)

    def test_no_further_pairs_line(self):
        self.assertLineFault("pairs 4", 1)
        self.assertLineFault("pairs 5", 1)
        self.assertFault(["pairs 4", "pairs 4"], 1, 1)
        self.assertFault(["pairs 4", "repeat 2", "pairs 4", "end"], 1, 2)


class Names(LaceCase):
    def test_length(self):
        self.assertLineFits("do 0 " + "a" * 12, [64], ("pairs 4", "let " + "a" * 12 + " = c"))
        self.assertLineFits("row " + "z" * 12 + " 0", [64], ("pairs 4", "let " + "z" * 12 + " = c"))
        self.assertLineFault("let " + "a" * 13 + " = c", 1)
        self.assertLineFault("do 0 " + "a" * 13, 1)
        self.assertLineFault("do 0 2*" + "a" * 13, 1)
        self.assertLineFault("row " + "a" * 13 + " 0", 1)
        self.assertLineFault("do 0 " + "a" * 12, 2)
        self.assertLineFault("row " + "a" * 12 + " 0", 2)

    def test_words_that_are_no_names(self):
        for word in RESERVED:
            self.assertLineFault(f"let {word} = c", 1)
            self.assertLineFault(f"do 0 {word}", 1)
            self.assertLineFault(f"do 0 2*{word}", 1)
            self.assertLineFault(f"let b = c {word}", 1)
            self.assertLineFault(f"row {word} 0", 1)

    def test_letters_that_are_no_names(self):
        for letter in "ctlr":
            self.assertLineFault(f"let {letter} = c", 1)
            self.assertLineFault(f"row {letter} 0", 1)

    def test_signs_that_are_no_letters(self):
        for name in ["A", "aB", "a1", "1", "a-b", "a_b", "=", "a="]:
            self.assertLineFault(f"let {name} = c", 1)
            self.assertLineFault(f"do 0 {name}", 1)
            self.assertLineFault(f"row {name} 0", 1)

    def test_let_before(self):
        self.assertLineFault("let a = c", 2)
        self.assertLineFault("let a = c t", 2)
        self.assertLineFault("let a = a", 2)

    def test_not_let_before(self):
        for line in ["do 0 b", "do 0 c b", "do 0 a 2*b t", "row b 0", "let b = x", "let b = c x", "let b = 2*x a"]:
            self.assertLineFault(line, 2)

    def test_a_name_is_none_of_its_own_items(self):
        self.assertLineFault("let b = b", 2)
        self.assertLineFault("let b = c 2*b", 2)

    def test_a_name_let_only_later(self):
        self.assertFault(["pairs 4", "do 0 a", "let a = c"], 2, 1)
        self.assertFault(["pairs 4", "row a 0", "let a = c"], 2, 1)
        self.assertFault(["pairs 4", "let b = a", "let a = c"], 2, 1)
        self.assertFault(["pairs 4", "repeat 2", "do 0 a", "let a = c", "end"], 2, 2)


class Places(LaceCase):
    def test_do_at_the_edge(self):
        for items in ["c", "t", "l", "r", "a"]:
            with self.subTest(items=items):
                self.assertEqual(read(bytes_of(text_of("pairs 4", "let a = c t", f"do 2 {items}")))[:2], [0, 4])
                self.assertLineFault(f"do 3 {items}", 3)
                self.assertLineFault(f"do 4 {items}", 3)

    def test_row_at_the_edge(self):
        self.assertLineFits("row a 2", [66, 2, 3])
        self.assertLineFault("row a 3", 3)
        self.assertLineFault("row a 4", 3)
        self.assertLineFault("row a 0 3", 3)
        self.assertLineFault("row a 0 2 4", 3)

    def test_cross_at_the_edge(self):
        self.assertLineFits("cross 2 1", [66])
        self.assertLineFault("cross 3 1", 3)
        self.assertLineFault("cross 4 1", 3)

    def test_twist_at_the_edge(self):
        self.assertLineFits("twist 3 1", [3])
        self.assertLineFault("twist 4 1", 3)
        self.assertLineFault("twist 5 1", 3)

    def test_one_pair(self):
        before = ("pairs 1", "let a = l")
        self.assertLineFits("twist 0 2", [0, 0], before)
        self.assertLineFault("twist 1 1", 3, before)
        for line in ["cross 0 1", "do 0 c", "do 0 l", "do 0 a", "row a 0"]:
            self.assertLineFault(line, 3, before)

    def test_two_pairs(self):
        before = ("pairs 2", "let a = c")
        self.assertLineFits("cross 0 1", [64], before)
        self.assertLineFits("do 0 t", [0, 1], before)
        self.assertLineFits("row a 0", [64], before)
        for line in ["cross 1 1", "do 1 l", "row a 1", "row a 0 2", "twist 2 1"]:
            self.assertLineFault(line, 3, before)

    def test_thirty_two_pairs(self):
        before = ("pairs 32", "let a = c r")
        self.assertLineFits("cross 30 1", [94], before)
        self.assertLineFits("twist 31 1", [31], before)
        self.assertLineFits("do 30 a t", [94, 31, 30, 31], before)
        self.assertLineFits("row a 30", [94, 31], before)
        for line in ["cross 31 1", "twist 32 1", "do 31 l", "row a 31", "cross 64 1", "twist 64 1", "twist 94 1"]:
            self.assertLineFault(line, 3, before)

    def test_how_a_row_stands(self):
        before = ("pairs 8", "let a = c")
        self.assertLineFits("row a 1 3", [65, 67], before)
        self.assertLineFits("row a 1 4", [65, 68], before)
        for line in ["row a 1 2", "row a 1 1", "row a 3 1", "row a 3 2", "row a 0 0", "row a 0 2 3", "row a 0 4 2",
                     "row a 2 0", "row a 4 0 2", "row a 0 2 4 5", "row a 6 0"]:
            self.assertLineFault(line, 3, before)


class RepeatsAndEnds(LaceCase):
    def test_an_end_without_a_repeat(self):
        self.assertFault(["pairs 2", "end"], 4, 1)
        self.assertFault(["pairs 2", "repeat 2", "end", "end"], 4, 3)

    def test_nine_deep(self):
        self.assertFault(["pairs 2"] + ["repeat 1"] * 9 + ["end"] * 9, 4, 9)
        self.assertFault(["pairs 2"] + ["repeat 1"] * 8 + ["end", "repeat 1", "repeat 1"] + ["end"] * 9, 4, 11)

    def test_eight_deep_again_and_again(self):
        deep = ["repeat 1"] * 8 + ["end"] * 8
        self.assertMeans(["pairs 2"] + deep * 3, 2, [])

    def test_a_repeat_that_is_not_ended(self):
        self.assertFault(["pairs 2", "repeat 2"], 4, 2)
        self.assertFault(["pairs 2", "repeat 2", "twist 0 1"], 4, 3)
        self.assertFault(["pairs 2", "repeat 2", "repeat 2", "twist 0 1", "end"], 4, 5)


class WhichFault(LaceCase):
    def test_of_a_line_the_least(self):
        deep = ("pairs 4", "let a = c", *["repeat 2"] * 8)
        for line, kind in [
            ("do 9 x 0*c", 1), ("do 9 x c ", 1), ("row x 9 7x", 1), ("row x 2 1 100000", 1), ("let a = x 0*c", 1),
            ("twist 9 0", 1), ("cross 9 0", 1), ("do 9 x", 2), ("do 3 a x", 2), ("row x 9", 2), ("row x 2 1", 2),
            ("repeat 0", 1), ("repeat 2 ", 1),
        ]:
            self.assertLineFault(line, kind, deep)
        self.assertLineFault("end 1", 1)
        self.assertLineFault("end ", 1)

    def test_of_a_text_the_first_line(self):
        self.assertFault(["pairs 4", "end", "pairs 4"], 4, 1)
        self.assertFault(["pairs 4", "twist 4 1", "do 0 x", "?"], 3, 1)
        self.assertFault(["pairs 4", "do 0 x", "?"], 2, 1)
        self.assertFault(["pairs 4", "twist 0 1", "let a = c", "?", "end"], 1, 3)
        self.assertFault(["pairs 4", "repeat 2", "twist 9 1", "end", "end"], 3, 2)

    def test_bytes_behind_the_last_line_feed(self):
        for rest in ["e", "end", "twist 0 1", " ", "pairs 4", "?", "\x00", "\r"]:
            with self.subTest(rest=rest):
                self.assertEqual(read(bytes_of("pairs 4\n" + rest)), [-5, 1, 1])
                self.assertEqual(read(bytes_of("pairs 4\ntwist 0 1\n" + rest)), [-5, 1, 2])
                self.assertEqual(read(bytes_of(rest)), [-5, 1, 0])
        self.assertEqual(read(bytes_of("pairs 4")), [-5, 1, 0])

    def test_no_line(self):
        self.assertEqual(read([]), [-5, 1, 0])

    def test_an_empty_line_alone(self):
        self.assertEqual(read([10]), [-5, 1, 0])
        self.assertEqual(read(bytes_of("pairs 4\n\n")), [-5, 1, 1])

    def test_a_line_comes_before_what_is_behind_all_lines(self):
        self.assertEqual(read(bytes_of("pairs 4\nend\nx")), [-5, 4, 1])
        self.assertEqual(read(bytes_of("pairs 4\nrepeat 2\ntwist 4 1\n")), [-5, 3, 2])

    def test_behind_all_lines_bytes_come_before_repeats(self):
        self.assertEqual(read(bytes_of("pairs 4\nrepeat 2\nx")), [-5, 1, 2])
        self.assertEqual(read(bytes_of("pairs 4\nrepeat 2\nend")), [-5, 1, 2])

    def test_too_many_acts_come_last(self):
        many = ["pairs 4", "twist 0 99999"]
        self.assertFault(many, 5, 1)
        self.assertFault([*many, "?"], 1, 2)
        self.assertFault([*many, "do 0 x"], 2, 2)
        self.assertFault([*many, "cross 3 1"], 3, 2)
        self.assertFault([*many, "do 3 c"], 3, 2)
        self.assertFault([*many, "let a = c", "row a 3"], 3, 3)
        self.assertFault([*many, "end"], 4, 2)
        self.assertFault([*many, *["repeat 2"] * 9], 4, 10)
        self.assertFault([*many, "repeat 2"], 4, 3)
        self.assertEqual(read(bytes_of(text_of(*many) + "x")), [-5, 1, 2])

    def test_too_many_acts_and_names_let_behind(self):
        self.assertFault(["pairs 4", "twist 0 99999", "let a = c", "do 0 a", "let b = a", "row b 0"], 5, 1)


if __name__ == "__main__":
    unittest.main()
