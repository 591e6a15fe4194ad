"""What write refuses: -1 by how many pairs or numbers there are, -5 by a number that is no act."""
import unittest

from bobbintexts.lace import write
from lacecase import LaceCase
from workings import acts_of_pairs

NOT_1_TO_32 = [0, 33, 34, 64, 255, 256, 65536, 4294967295]


class HowManyPairs(LaceCase):
    def test_not_1_to_32(self):
        for pairs in NOT_1_TO_32:
            with self.subTest(pairs=pairs):
                self.assertEqual(write(pairs, []), [-1])
                self.assertEqual(write(pairs, [0]), [-1])
                self.assertEqual(write(pairs, [0, 64, 1]), [-1])

    def test_1_to_32(self):
        for pairs in range(1, 33):
            with self.subTest(pairs=pairs):
                self.assertEqual(write(pairs, [])[0], 0)
                self.assertEqual(write(pairs, [0])[0], 0)


class HowManyNumbers(LaceCase):
    def test_512_and_more(self):
        for pairs in [1, 4, 32]:
            for act in [0, pairs - 1]:
                with self.subTest(pairs=pairs, act=act):
                    self.assertEqual(write(pairs, [act] * 511)[0], 0)
                    self.assertEqual(write(pairs, [act] * 512)[0], 0)
                    for count in [513, 514, 1000]:
                        self.assertEqual(write(pairs, [act] * count), [-1])


class NoAct(LaceCase):
    def test_every_number_of_all_pairs(self):
        for pairs in range(1, 33):
            acts = acts_of_pairs(pairs)
            for number in range(256):
                answer = write(pairs, [number])
                if number in acts:
                    self.assertEqual(answer[0], 0, (pairs, number))
                else:
                    self.assertEqual(answer, [-5], (pairs, number))

    def test_twists_at_the_edge(self):
        for pairs in [1, 2, 9, 31, 32]:
            self.assertWrites(pairs, [pairs - 1], [f"pairs {pairs}", f"twist {pairs - 1} 1"])
            self.assertEqual(write(pairs, [pairs]), [-5])

    def test_crosses_at_the_edge(self):
        for pairs in [2, 3, 9, 31, 32]:
            self.assertWrites(pairs, [64 + pairs - 2], [f"pairs {pairs}", f"cross {pairs - 2} 1"])
            self.assertEqual(write(pairs, [64 + pairs - 1]), [-5])

    def test_one_pair_has_no_cross(self):
        self.assertWrites(1, [0], ["pairs 1", "twist 0 1"])
        for number in [1, 63, 64, 65, 255]:
            self.assertEqual(write(1, [number]), [-5])

    def test_between_twists_and_crosses_and_behind(self):
        for pairs in [1, 4, 32]:
            for number in [*range(32, 64), 95, 96, 127, 128, 192, 255]:
                self.assertEqual(write(pairs, [number]), [-5])

    def test_first_last_alone_and_between(self):
        for number in [4, 31, 32, 63, 67, 95, 255]:
            for acts in [[number], [number, 0], [0, number], [0, 64, 66, number], [number, 66, 64, 0],
                         [3, number, 3], [number, number], [0] * 511 + [number], [number] + [0] * 511, [number] * 512]:
                with self.subTest(number=number, count=len(acts)):
                    self.assertEqual(write(4, acts), [-5])


class WhichRefusal(LaceCase):
    def test_pairs_ahead_of_no_act(self):
        for pairs in NOT_1_TO_32:
            for number in [32, 63, 95, 255]:
                self.assertEqual(write(pairs, [number]), [-1])
                self.assertEqual(write(pairs, [0, number]), [-1])

    def test_too_many_numbers_ahead_of_no_act(self):
        for count in [513, 1000]:
            self.assertEqual(write(4, [255] * count), [-1])
            self.assertEqual(write(4, [4] + [0] * (count - 1)), [-1])
            self.assertEqual(write(4, [0] * (count - 1) + [4]), [-1])

    def test_both_of_pairs_and_numbers(self):
        self.assertEqual(write(0, [0] * 513), [-1])
        self.assertEqual(write(33, [255] * 1000), [-1])


if __name__ == "__main__":
    unittest.main()
