"""[40], [41]: how far others can push the middle one of all, and by what they say."""

import itertools
import random
import statistics
import unittest

from midvalue.errors import BadStep
from midvalue.liars import farthest, worst

GREAT = 10 ** 40


def all_told(most):
    """Right ones and a number of others for whom an answer is due, like numbers and all orders among them."""
    for length in range(1, most + 1):
        for rights in itertools.product((-3, 0, 4), repeat=length):
            for others in range(length - 1, -1, -2):
                yield list(rights), others


def some_told(seed):
    """The same by chance, of greater lengths."""
    chance = random.Random(seed)
    for number in range(400):
        wide = chance.choice((3, 100, GREAT))
        rights = [chance.randint(-wide, wide) for place in range(chance.randint(1, 40))]
        yield rights, chance.randrange((len(rights) - 1) % 2, len(rights), 2)


def refused():
    """Right ones and others for whom none is due: as many or more, or an even number of all."""
    for length in range(1, 10):
        for others in range(0, 2 * length + 3):
            if others >= length or (length + others) % 2 == 0:
                yield list(range(length)), others


class Farthest(unittest.TestCase):
    def test_no_others(self):
        self.assertEqual(farthest([7], 0), (7, 7))
        self.assertEqual(farthest([9, 1, 5], 0), (5, 5))
        self.assertEqual(farthest([9, 1, 5, -3, 100], 0), (5, 5))

    def test_one_other(self):
        self.assertEqual(farthest([20, 10], 1), (10, 20))
        self.assertEqual(farthest([40, 10, 30, 20], 1), (20, 30))

    def test_two_others(self):
        self.assertEqual(farthest([3, 1, 2], 2), (1, 3))
        self.assertEqual(farthest([5, 3, 1, 2, 4], 2), (2, 4))

    def test_one_fewer_than_the_right_ones_reaches_the_ends(self):
        for length in range(1, 12):
            rights = [number * number for number in range(length)]
            self.assertEqual(farthest(rights, length - 1), (rights[0], rights[-1]))

    def test_like_numbers(self):
        self.assertEqual(farthest([4, 4, 4], 2), (4, 4))
        self.assertEqual(farthest([1, 4, 4, 4, 9], 2), (4, 4))
        self.assertEqual(farthest([1, 1, 9, 9], 3), (1, 9))

    def test_negative_and_great_ones(self):
        self.assertEqual(farthest([-1, -9, -5], 2), (-9, -1))
        self.assertEqual(farthest([GREAT, -GREAT, GREAT + 1], 2), (-GREAT, GREAT + 1))
        self.assertEqual(farthest([GREAT, -GREAT, GREAT + 1], 0), (GREAT, GREAT))

    def test_every_order(self):
        for rights in itertools.permutations([1, 20, 300, 4000]):
            self.assertEqual(farthest(list(rights), 1), (20, 300))
            self.assertEqual(farthest(list(rights), 3), (1, 4000))

    def test_pair(self):
        self.assertIsInstance(farthest([1, 2, 3], 2), tuple)

    def test_against_all_that_others_may_say(self):
        words = (-GREAT, -4, -3, -2, 0, 1, 4, 5, GREAT)
        for rights, others in all_told(4):
            said = [statistics.median(rights + list(lies))
                    for lies in itertools.combinations_with_replacement(words, others)]
            self.assertEqual(farthest(rights, others), (min(said), max(said)), (rights, others))

    def test_against_the_outermost_lies(self):
        for rights, others in some_told(41):
            least = statistics.median(rights + [min(rights) - 1] * others)
            greatest = statistics.median(rights + [max(rights) + 1] * others)
            self.assertEqual(farthest(rights, others), (least, greatest))

    def test_no_lies_reach_further(self):
        chance = random.Random(42)
        for rights, others in some_told(43):
            least, greatest = farthest(rights, others)
            self.assertIn(least, rights)
            self.assertIn(greatest, rights)
            for number in range(10):
                lies = [chance.choice(rights) + chance.randint(-50, 50) for place in range(others)]
                self.assertTrue(least <= statistics.median(rights + lies) <= greatest)

    def test_refused(self):
        for rights, others in refused():
            with self.assertRaises(BadStep, msg=(rights, others)):
                farthest(rights, others)

    def test_refused_edges(self):
        for rights, others in (([7], 1), ([7], 2), ([7, 8], 0), ([7, 8], 2), ([7, 8], 3), ([7, 8, 9], 1), ([], 0)):
            with self.assertRaises(BadStep):
                farthest(rights, others)

    def test_list_stays(self):
        rights = [9, 1, 5]
        self.assertEqual(farthest(rights, 2), farthest(rights, 2))
        with self.assertRaises(BadStep):
            farthest(rights, 1)
        self.assertEqual(rights, [9, 1, 5])


class Worst(unittest.TestCase):
    def holds(self, rights, others):
        ends = farthest(rights, others)
        for is_great in (False, True):
            lies = worst(rights, others, is_great)
            self.assertIsInstance(lies, list)
            self.assertEqual(len(lies), others)
            for number in lies:
                self.assertTrue(min(rights) <= number <= max(rights))
            self.assertEqual(statistics.median(rights + lies), ends[is_great], (rights, others, is_great))

    def test_no_others(self):
        for rights in ([7], [9, 1, 5]):
            for is_great in (False, True):
                self.assertEqual(worst(rights, 0, is_great), [])

    def test_ordinary(self):
        self.holds([3, 1, 2], 2)
        self.holds([40, 10, 30, 20], 1)
        self.holds([40, 10, 30, 20], 3)

    def test_negative_great_and_like_ones(self):
        self.holds([-1, -9, -5], 2)
        self.holds([GREAT, -GREAT, GREAT + 1], 2)
        self.holds([4, 4, 4], 2)

    def test_all_small_ones(self):
        for rights, others in all_told(5):
            self.holds(rights, others)

    def test_longer_ones(self):
        for rights, others in some_told(44):
            self.holds(rights, others)

    def test_refused(self):
        for rights, others in list(refused()) + [([], 0)]:
            for is_great in (False, True):
                with self.assertRaises(BadStep, msg=(rights, others)):
                    worst(rights, others, is_great)

    def test_list_stays_and_the_answer_is_the_askers_own(self):
        rights = [9, 1, 5]
        for is_great in (False, True):
            told = worst(rights, 2, is_great)
            kept = list(told)
            told.append(99)
            self.assertEqual(worst(rights, 2, is_great), kept)
            self.assertEqual(rights, [9, 1, 5])


if __name__ == "__main__":
    unittest.main()
