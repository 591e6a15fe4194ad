"""The form that write writes: the first of all workings that are the same lace."""
import itertools
import unittest

from bobbintexts.lace import write
from lacecase import LaceCase, bytes_of
from workings import PLACES, acts_of_pairs, changed_about, drawn_working, plain_form, plain_text, same_laces


class ByHand(LaceCase):
    def test_twists_that_do_not_touch(self):
        self.assertWrites(2, [1, 0], ["pairs 2", "twist 0 1", "twist 1 1"])
        self.assertWrites(4, [3, 2, 1, 0], ["pairs 4", "twist 0 1", "twist 1 1", "twist 2 1", "twist 3 1"])

    def test_crosses_that_do_not_touch(self):
        self.assertWrites(3, [65, 64], ["pairs 3", "cross 0 1", "cross 1 1"])
        self.assertWrites(4, [66, 65, 64], ["pairs 4", "cross 0 1", "cross 1 1", "cross 2 1"])

    def test_a_twist_and_a_cross_that_do_not_touch(self):
        self.assertWrites(3, [65, 0], ["pairs 3", "twist 0 1", "cross 1 1"])
        self.assertWrites(3, [64, 2], ["pairs 3", "twist 2 1", "cross 0 1"])
        self.assertWrites(3, [2, 64], ["pairs 3", "twist 2 1", "cross 0 1"])
        self.assertWrites(32, [64, 31], ["pairs 32", "twist 31 1", "cross 0 1"])

    def test_acts_that_touch_keep_their_order(self):
        for acts in [[64, 0], [64, 1], [65, 1], [65, 2], [0, 64], [1, 64], [1, 65], [2, 65]]:
            lines = [f"cross {act - 64} 1" if act >= 64 else f"twist {act} 1" for act in acts]
            self.assertWrites(3, acts, ["pairs 3", *lines])

    def test_which_acts_touch(self):
        # Of all two acts of 32 pairs: the greater one first stays so just if they have a place in common.
        for less, more in itertools.combinations(acts_of_pairs(32), 2):
            kept = write(32, [more, less]) == [0, *bytes_of(plain_text(32, [more, less]))]
            self.assertEqual(kept, bool(PLACES[less] & PLACES[more]), (less, more))
            self.assertEqual(write(32, [less, more]), [0, *bytes_of(plain_text(32, [less, more]))])

    def test_ahead_only_past_acts_that_are_not_touched(self):
        self.assertWrites(4, [66, 64, 0], ["pairs 4", "cross 0 1", "twist 0 1", "cross 2 1"])
        self.assertWrites(3, [2, 65, 1], ["pairs 3", "twist 2 1", "cross 1 1", "twist 1 1"])
        self.assertWrites(3, [64, 2, 0], ["pairs 3", "twist 2 1", "cross 0 1", "twist 0 1"])
        self.assertWrites(4, [3, 64, 66, 0, 2], [
            "pairs 4", "twist 3 1", "cross 0 1", "twist 0 1", "cross 2 1", "twist 2 1"])

    def test_past_a_lesser_act_to_come_ahead_of_a_greater_one(self):
        # Twist 1 can stand ahead of cross 2, though twist 0, the lesser, stands between.
        self.assertWrites(4, [66, 0, 1], ["pairs 4", "twist 0 1", "twist 1 1", "cross 2 1"])
        # Cross 1 comes ahead of cross 3, past twist 3 that waits for that and is less.
        self.assertWrites(5, [67, 3, 65], ["pairs 5", "cross 1 1", "cross 3 1", "twist 3 1"])

    def test_alike_only_in_the_form(self):
        self.assertWrites(2, [0, 1, 0], ["pairs 2", "twist 0 2", "twist 1 1"])
        self.assertWrites(2, [1, 0, 1, 0, 1], ["pairs 2", "twist 0 2", "twist 1 3"])
        self.assertWrites(3, [65, 64, 65, 64], ["pairs 3", "cross 0 2", "cross 1 2"])
        self.assertWrites(3, [0, 65, 0, 65], ["pairs 3", "twist 0 2", "cross 1 2"])
        self.assertWrites(2, [0, 1] * 256, ["pairs 2", "twist 0 256", "twist 1 256"])

    def test_alike_but_apart_in_the_form(self):
        self.assertWrites(2, [0, 64, 0], ["pairs 2", "twist 0 1", "cross 0 1", "twist 0 1"])
        self.assertWrites(2, [1, 64, 0, 1, 0], ["pairs 2", "twist 1 1", "cross 0 1", "twist 0 2", "twist 1 1"])

    def test_cloth_stitches(self):
        row = [66, 2, 3, 66, 64, 0, 1, 64]
        self.assertWrites(4, row, [
            "pairs 4", "cross 0 1", "twist 0 1", "twist 1 1", "cross 0 1",
            "cross 2 1", "twist 2 1", "twist 3 1", "cross 2 1"])


class AllSmallWorkings(LaceCase):
    """Every working of few pairs and acts, lace by lace."""

    def laces(self, pairs, most):
        """Each lace of at most so many acts, as all its workings."""
        for size in range(most + 1):
            seen = set()
            for working in itertools.product(acts_of_pairs(pairs), repeat=size):
                if working not in seen:
                    lace = same_laces(working)
                    seen |= lace
                    yield lace

    def test_each_lace_has_one_text_that_is_its_form(self):
        for pairs, most in [(1, 8), (2, 6), (3, 5), (4, 4), (5, 3)]:
            texts, count = set(), 0
            for lace in self.laces(pairs, most):
                text = [0, *bytes_of(plain_text(pairs, min(lace)))]
                for working in lace:
                    self.assertEqual(write(pairs, list(working)), text, working)
                texts.add(tuple(text))
                count += 1
            # Two laces never have one text.
            self.assertEqual(len(texts), count)


class DrawnWorkings(LaceCase):
    def test_the_first_of_all_that_are_the_same_lace(self):
        most = 0
        for seed in range(400):
            pairs, acts = drawn_working(seed, 2 + seed % 6)
            lace = same_laces(acts)
            most = max(most, len(lace))
            self.assertEqual(write(pairs, acts), [0, *bytes_of(plain_text(pairs, min(lace)))], acts)
        self.assertGreater(most, 1000)

    def test_beside_the_plain_form(self):
        for seed in range(300):
            pairs, acts = drawn_working(seed, seed % 100)
            self.assertEqual(write(pairs, acts), [0, *bytes_of(plain_text(pairs, plain_form(acts)))], acts)

    def test_the_same_lace_has_the_same_text(self):
        changed = 0
        for seed in range(300):
            pairs, acts = drawn_working(seed, 1 + seed % 120)
            other = changed_about(acts, seed, 2000)
            changed += other != acts
            self.assertEqual(write(pairs, acts), write(pairs, other), acts)
        self.assertGreater(changed, 100)

    def test_another_lace_has_another_text(self):
        changed = 0
        for seed in range(300):
            pairs, acts = drawn_working(seed, 2 + seed % 60)
            text = write(pairs, acts)
            self.assertNotEqual(write(pairs, acts + acts[:1]), text)
            self.assertNotEqual(write(pairs, acts[1:]), text)
            self.assertNotEqual(write(pairs % 32 + 1, acts), text)
            for k in range(len(acts) - 1):
                left, right = acts[k:k + 2]
                if left != right and PLACES[left] & PLACES[right]:
                    changed += 1
                    self.assertNotEqual(write(pairs, [*acts[:k], right, left, *acts[k + 2:]]), text)
        self.assertGreater(changed, 500)


if __name__ == "__main__":
    unittest.main()
