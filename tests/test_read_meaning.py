"""Promise 1: which working a text without a fault means."""
import unittest

from bobbintexts.lace import read
from lacecase import LaceCase, bytes_of, text_of


class ActLines(LaceCase):
    def test_pairs_alone(self):
        self.assertMeans(["pairs 1"], 1, [])
        self.assertMeans(["pairs 32"], 32, [])

    def test_twist(self):
        self.assertMeans(["pairs 4", "twist 2 1"], 4, [2])
        self.assertMeans(["pairs 4", "twist 0 3"], 4, [0, 0, 0])

    def test_cross(self):
        self.assertMeans(["pairs 4", "cross 2 1"], 4, [66])
        self.assertMeans(["pairs 4", "cross 0 2"], 4, [64, 64])

    def test_lines_one_after_another(self):
        self.assertMeans(["pairs 3", "twist 2 2", "cross 1 1", "twist 0 1"], 3, [2, 2, 65, 0])


class Items(LaceCase):
    def test_letters(self):
        self.assertLineFits("do 0 c", [64])
        self.assertLineFits("do 0 t", [0, 1])
        self.assertLineFits("do 0 l", [0])
        self.assertLineFits("do 0 r", [1])

    def test_letters_at_another_pair(self):
        self.assertLineFits("do 2 c", [66])
        self.assertLineFits("do 2 t", [2, 3])
        self.assertLineFits("do 2 l", [2])
        self.assertLineFits("do 2 r", [3])

    def test_numbers_in_front(self):
        self.assertLineFits("do 1 1*c", [65])
        self.assertLineFits("do 1 3*c", [65, 65, 65])
        self.assertLineFits("do 1 2*t", [1, 2, 1, 2])
        self.assertLineFits("do 1 2*l", [1, 1])
        self.assertLineFits("do 1 10*r", [2] * 10)

    def test_several_items(self):
        self.assertLineFits("do 1 c t 2*l r", [65, 1, 2, 1, 1, 2])

    def test_names(self):
        self.assertLineFits("do 0 a", [64, 0, 1])
        self.assertLineFits("do 2 2*a", [66, 2, 3, 66, 2, 3])
        self.assertLineFits("do 1 l a c", [1, 65, 1, 2, 65])

    def test_names_of_names(self):
        before = ("pairs 4", "let half = c t", "let whole = 2*half", "let edge = whole r 2*l half")
        half = [65, 1, 2]
        self.assertLineFits("do 1 whole", half * 2, before)
        self.assertLineFits("do 1 edge", half * 2 + [2, 1, 1] + half, before)
        self.assertLineFits("do 1 2*edge", (half * 2 + [2, 1, 1] + half) * 2, before)

    def test_a_let_works_nothing(self):
        self.assertMeans(["pairs 4", "let a = c t"], 4, [])

    def test_a_name_may_begin_with_a_word(self):
        for name in ["pairsx", "lets", "dot", "rows", "twists", "crossed", "repeats", "ends", "cc", "tc", "ll", "rr"]:
            self.assertLineFits(f"do 0 {name}", [64], ("pairs 4", f"let {name} = c"))

    def test_every_letter(self):
        for name in "abdefghijkmnopqsuvwxyz":
            self.assertLineFits(f"do 0 {name}", [64], ("pairs 4", f"let {name} = c"))


class Rows(LaceCase):
    def test_one_place(self):
        self.assertLineFits("row a 1", [65, 1, 2])

    def test_places_in_turn(self):
        self.assertLineFits("row a 0 2", [64, 0, 1, 66, 2, 3])

    def test_places_further_apart(self):
        before = ("pairs 9", "let a = c r")
        self.assertLineFits("row a 0 3 7", [64, 1, 67, 4, 71, 8], before)

    def test_a_whole_row(self):
        places = list(range(0, 32, 2))
        line = "row a " + " ".join(map(str, places))
        self.assertLineFits(line, [64 + place for place in places], ("pairs 32", "let a = c"))

    def test_the_first_sentence_of_the_document(self):
        lines = ["pairs 6", "let cloth = c t c", "repeat 8", "row cloth 0 2 4", "end"]
        row = [64, 0, 1, 64, 66, 2, 3, 66, 68, 4, 5, 68]
        self.assertMeans(lines, 6, row * 8)


class Repeats(LaceCase):
    def test_once_and_often(self):
        self.assertMeans(["pairs 2", "repeat 1", "twist 0 1", "end"], 2, [0])
        self.assertMeans(["pairs 2", "repeat 3", "twist 0 1", "cross 0 1", "end"], 2, [0, 64] * 3)

    def test_lines_before_and_behind(self):
        lines = ["pairs 2", "twist 1 1", "repeat 2", "cross 0 1", "end", "twist 0 1"]
        self.assertMeans(lines, 2, [1, 64, 64, 0])

    def test_within_repeats(self):
        lines = ["pairs 2", "repeat 2", "twist 0 1", "repeat 3", "cross 0 1", "end", "twist 1 1", "end"]
        self.assertMeans(lines, 2, [0, 64, 64, 64, 1] * 2)

    def test_side_by_side_within_one(self):
        lines = ["pairs 2", "repeat 2", "repeat 2", "twist 0 1", "end", "repeat 3", "twist 1 1", "end", "end"]
        self.assertMeans(lines, 2, [0, 0, 1, 1, 1] * 2)

    def test_with_no_lines(self):
        self.assertMeans(["pairs 2", "repeat 5", "end"], 2, [])
        self.assertMeans(["pairs 2", "repeat 5", "end", "twist 0 1"], 2, [0])
        self.assertMeans(["pairs 2", "twist 0 1", "repeat 5", "end"], 2, [0])

    def test_a_let_within_counts_behind_the_end(self):
        self.assertMeans(["pairs 2", "repeat 3", "let a = c", "end", "do 0 a"], 2, [64])

    def test_a_let_within_counts_once(self):
        self.assertMeans(["pairs 2", "repeat 3", "let a = c l", "do 0 a", "end", "row a 0"], 2, [64, 0] * 4)
        self.assertFault(["pairs 2", "repeat 3", "let a = c", "end", "let a = c"], 2, 4)

    def test_eight_deep(self):
        lines = ["pairs 2"] + ["repeat 2"] * 8 + ["twist 1 1"] + ["end"] * 8
        self.assertMeans(lines, 2, [1] * 256)

    def test_many_side_by_side(self):
        self.assertMeans(["pairs 2"] + ["repeat 2", "twist 1 1", "end"] * 20, 2, [1] * 40)


class CallByItself(LaceCase):
    TEXTS = [
        text_of("pairs 3", "let a = c", "repeat 2", "do 0 a", "end"),
        text_of("pairs 3", "do 0 a"),
        text_of("pairs 3", "repeat 2"),
        text_of("pairs 3", "twist 0 99999"),
        text_of("pairs 3"),
        "",
        "?" * 17000,
    ]

    def test_what_is_handed_in_stays(self):
        for text in self.TEXTS:
            handed = bytes_of(text)
            read(handed)
            self.assertEqual(handed, bytes_of(text))

    def test_nothing_is_kept(self):
        first = [read(bytes_of(text)) for text in self.TEXTS]
        again = [read(bytes_of(text)) for text in reversed(self.TEXTS)]
        self.assertEqual(first, again[::-1])
        self.assertEqual(first[:5], [[0, 3, 64, 64], [-5, 2, 1], [-5, 4, 2], [-5, 5, 1], [0, 3]])

    def test_an_answer_that_is_changed_changes_no_other(self):
        text = bytes_of(self.TEXTS[0])
        read(text).append(7)
        self.assertEqual(read(text), [0, 3, 64, 64])

    def test_whole_numbers_in_one_list(self):
        for text in self.TEXTS:
            answer = read(bytes_of(text))
            self.assertIs(type(answer), list)
            self.assertEqual({type(number) for number in answer}, {int})


if __name__ == "__main__":
    unittest.main()
