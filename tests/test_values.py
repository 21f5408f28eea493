"""[10], [11]: middle, moved, agree."""

import itertools
import unittest

from midvalue.values import agree, middle, moved

GREAT = 10 ** 40


class Middle(unittest.TestCase):
    def test_one(self):
        for near in (-GREAT, 0, 7, GREAT):
            self.assertEqual(middle([7], near), 7)

    def test_odd_length_whatever_is_near(self):
        for near in (-GREAT, 0, 1, 5, 9, GREAT):
            self.assertEqual(middle([9, 1, 5], near), 5)
            self.assertEqual(middle([9, 1, 5, -3, 100], near), 5)

    def test_every_order(self):
        for numbers in itertools.permutations([1, 2, 30, 400, 5000]):
            self.assertEqual(middle(list(numbers), 5000), 30)
        for numbers in itertools.permutations([1, 20, 30, 400]):
            self.assertEqual(middle(list(numbers), 1), 20)
            self.assertEqual(middle(list(numbers), 400), 30)

    def test_even_length_the_nearer(self):
        self.assertEqual(middle([10, 20], 14), 10)
        self.assertEqual(middle([10, 20], 16), 20)
        self.assertEqual(middle([10, 20], 10), 10)
        self.assertEqual(middle([10, 20], 20), 20)
        self.assertEqual(middle([10, 20], -5), 10)
        self.assertEqual(middle([10, 20], 99), 20)
        self.assertEqual(middle([40, 20, 10, 0], 99), 20)
        self.assertEqual(middle([40, 20, 10, 0], 0), 10)

    def test_even_length_as_near_the_lesser(self):
        self.assertEqual(middle([10, 20], 15), 10)
        self.assertEqual(middle([20, 10], 15), 10)
        self.assertEqual(middle([5, -5], 0), -5)
        self.assertEqual(middle([-20, -10, 0, 10], -5), -10)

    def test_even_length_one_off_the_half(self):
        self.assertEqual(middle([10, 21], 15), 10)
        self.assertEqual(middle([10, 21], 16), 21)

    def test_like_numbers(self):
        self.assertEqual(middle([4, 4], 9), 4)
        self.assertEqual(middle([4, 4, 4], -9), 4)
        self.assertEqual(middle([1, 4, 4, 9], 9), 4)
        self.assertEqual(middle([1, 1, 1, 9, 9], 9), 1)

    def test_negative(self):
        self.assertEqual(middle([-1, -9, -5], 0), -5)
        self.assertEqual(middle([-10, -20], -16), -20)
        self.assertEqual(middle([-10, -20], -14), -10)

    def test_very_great(self):
        self.assertEqual(middle([GREAT, -GREAT, 3], 0), 3)
        self.assertEqual(middle([GREAT, GREAT + 1], GREAT + 1), GREAT + 1)
        self.assertEqual(middle([GREAT, GREAT + 1], GREAT), GREAT)
        self.assertEqual(middle([-GREAT, GREAT], 0), -GREAT)
        self.assertEqual(middle([-GREAT, GREAT], 1), GREAT)

    def test_list_stays(self):
        numbers = [9, 1, 5, 3]
        middle(numbers, 0)
        self.assertEqual(numbers, [9, 1, 5, 3])


class Moved(unittest.TestCase):
    def test_goal_above(self):
        self.assertEqual([moved(10, 15, most) for most in (0, 1, 4, 5, 6, GREAT)], [10, 11, 14, 15, 15, 15])

    def test_goal_below(self):
        self.assertEqual([moved(10, 5, most) for most in (0, 1, 4, 5, 6, GREAT)], [10, 9, 6, 5, 5, 5])

    def test_goal_at_the_number(self):
        self.assertEqual([moved(10, 10, most) for most in (0, 1, GREAT)], [10, 10, 10])

    def test_across_zero(self):
        self.assertEqual(moved(-3, 3, 4), 1)
        self.assertEqual(moved(3, -3, 4), -1)
        self.assertEqual(moved(-3, -9, 4), -7)
        self.assertEqual(moved(-9, -3, 4), -5)

    def test_very_great(self):
        self.assertEqual(moved(-GREAT, GREAT, 1), 1 - GREAT)
        self.assertEqual(moved(GREAT, -GREAT, 2 * GREAT), -GREAT)


class Agree(unittest.TestCase):
    def test_edges_on_both_sides(self):
        self.assertEqual(agree([89, 90, 91, 100, 109, 110, 111], 100, 10), [1, 2, 3, 4, 5])

    def test_threshold_0(self):
        self.assertEqual(agree([6, 7, 8, 7], 7, 0), [1, 3])

    def test_places_rise(self):
        self.assertEqual(agree([9, 50, 1, 5, 50, 0], 5, 5), [0, 2, 3, 5])

    def test_empty_answers(self):
        self.assertEqual(agree([], 5, 5), [])
        self.assertEqual(agree([-6, 16], 5, 10), [])

    def test_negative_and_very_great(self):
        self.assertEqual(agree([-GREAT, -GREAT - 1, GREAT], -GREAT, 0), [0])
        self.assertEqual(agree([-5, 5, -16, 16], -5, 10), [0, 1])
        self.assertEqual(agree([-GREAT, 0, GREAT], 0, GREAT), [0, 1, 2])

    def test_list_stays_and_the_answer_is_the_askers_own(self):
        numbers = [1, 2, 30]
        told = agree(numbers, 1, 1)
        self.assertIsInstance(told, list)
        told.append(99)
        self.assertEqual(numbers, [1, 2, 30])
        self.assertEqual(agree(numbers, 1, 1), [0, 1])
        numbers[0] = 30
        self.assertEqual(told, [0, 1, 99])


if __name__ == "__main__":
    unittest.main()
