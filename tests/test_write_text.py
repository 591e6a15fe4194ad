"""What write answers: the bytes of the text, and that each call is by itself."""
import unittest

from bobbintexts.lace import write
from lacecase import LaceCase


class Bytes(LaceCase):
    def test_an_empty_working(self):
        self.assertEqual(write(1, []), [0, 112, 97, 105, 114, 115, 32, 49, 10])
        self.assertEqual(write(9, []), [0, 112, 97, 105, 114, 115, 32, 57, 10])
        self.assertEqual(write(10, []), [0, 112, 97, 105, 114, 115, 32, 49, 48, 10])
        self.assertEqual(write(32, []), [0, 112, 97, 105, 114, 115, 32, 51, 50, 10])

    def test_pairs_as_decimal_numbers(self):
        for pairs in range(1, 33):
            self.assertWrites(pairs, [], [f"pairs {pairs}"])

    def test_each_byte(self):
        self.assertEqual(write(12, [10, 74, 74]), [0, *b"pairs 12\ntwist 10 1\ncross 10 2\n"])
        self.assertEqual(write(2, [64]), [0, *b"pairs 2\ncross 0 1\n"])
        self.assertEqual(write(1, [0]), [0, *b"pairs 1\ntwist 0 1\n"])

    def test_every_act(self):
        for k in range(32):
            self.assertWrites(32, [k], ["pairs 32", f"twist {k} 1"])
        for k in range(31):
            self.assertWrites(32, [64 + k], ["pairs 32", f"cross {k} 1"])

    def test_how_many_alike(self):
        for times in [1, 2, 9, 10, 11, 99, 100, 101, 511, 512]:
            self.assertWrites(4, [3] * times, ["pairs 4", f"twist 3 {times}"])
            self.assertWrites(4, [65] * times, ["pairs 4", f"cross 1 {times}"])

    def test_runs_one_after_another(self):
        self.assertWrites(2, [0] * 10 + [64] * 9 + [0] + [64] * 100, [
            "pairs 2", "twist 0 10", "cross 0 9", "twist 0 1", "cross 0 100"])
        self.assertWrites(2, [0, 64] * 3, ["pairs 2", *["twist 0 1", "cross 0 1"] * 3])

    def test_a_twist_and_a_cross_of_one_place_are_not_alike(self):
        self.assertWrites(3, [1, 65, 1, 1, 65, 65], [
            "pairs 3", "twist 1 1", "cross 1 1", "twist 1 2", "cross 1 2"])

    def test_the_longest_text(self):
        lines = ["twist 30 1", "cross 30 1"] * 256
        self.assertWrites(32, [30, 94] * 256, ["pairs 32", *lines])


class CallByItself(LaceCase):
    WORKINGS = [(4, [3, 66, 0, 64, 1, 0]), (4, []), (32, list(range(31, -1, -1)) * 16), (4, [0, 4]), (33, [3, 0]),
                (4, [3, 0] * 500), (0, [])]

    def test_what_is_handed_in_stays(self):
        for pairs, acts in self.WORKINGS:
            handed = list(acts)
            write(pairs, handed)
            self.assertEqual(handed, acts)

    def test_nothing_is_kept(self):
        first = [write(pairs, list(acts)) for pairs, acts in self.WORKINGS]
        again = [write(pairs, list(acts)) for pairs, acts in reversed(self.WORKINGS)]
        self.assertEqual(first, again[::-1])
        self.assertEqual(first[3:], [[-5], [-1], [-1], [-1]])

    def test_the_same_list_again(self):
        for pairs, acts in self.WORKINGS:
            handed = list(acts)
            self.assertEqual(write(pairs, handed), write(pairs, handed))

    def test_an_answer_that_is_changed_changes_no_other(self):
        for pairs, acts in self.WORKINGS:
            answer = write(pairs, acts)
            kept = list(answer)
            answer.append(7)
            self.assertEqual(write(pairs, acts), kept)

    def test_whole_numbers_in_one_list(self):
        for pairs, acts in self.WORKINGS:
            answer = write(pairs, acts)
            self.assertIs(type(answer), list)
            self.assertEqual({type(number) for number in answer}, {int})

    def test_the_names_of_what_is_handed_in(self):
        self.assertEqual(write(n=2, a=[1, 0]), write(2, [1, 0]))


if __name__ == "__main__":
    unittest.main()
