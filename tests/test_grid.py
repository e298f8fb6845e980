"""Point 25: grid."""

import random
import unittest
from fractions import Fraction

from exactplaces.exact import grid
from helper import EXTREMES, GREATEST, LEAST, NOT_FINITE, any_number, bits, near_number
from truth import numbers_of, told, values_of, whole_by

ONE = bits(1.0)


def true_grid(k, way, x):
    values = values_of(x)
    multiples = [Fraction(whole_by(way, value * 2 ** k), 2 ** k) for value in values]
    return [0] + [told(m) for m in multiples] + [told(value - m) for value, m in zip(values, multiples)]


class GridTest(unittest.TestCase):
    def check(self, k, way, x, multiples, left):
        numbers = numbers_of(x)
        expected = [0] + numbers_of(multiples) + numbers_of(left)
        self.assertEqual(true_grid(k, way, numbers), expected)
        self.assertEqual(grid(k, way, numbers), expected)

    def test_whole_numbers_by_each_way(self):
        x = [1.25, 1.75, -1.25, -1.75, 3]
        self.check(0, 0, x, [1, 2, -1, -2, 3], [0.25, -0.25, -0.25, 0.25, 0.0])
        self.check(0, 1, x, [1, 1, -2, -2, 3], [0.25, 0.75, 0.75, 0.25, 0.0])
        self.check(0, 2, x, [2, 2, -1, -1, 3], [-0.75, -0.25, -0.25, -0.75, 0.0])
        self.check(0, 3, x, [1, 1, -1, -1, 3], [0.25, 0.75, -0.25, -0.75, 0.0])

    def test_the_finest_multiples_by_each_way(self):
        step = 2.0 ** -15
        x = [5 * step + step / 4, -5 * step - step / 4, 7 * step]
        self.check(15, 0, x, [5 * step, -5 * step, 7 * step], [step / 4, -step / 4, 0.0])
        self.check(15, 1, x, [5 * step, -6 * step, 7 * step], [step / 4, step * 0.75, 0.0])
        self.check(15, 2, x, [6 * step, -5 * step, 7 * step], [-step * 0.75, -step / 4, 0.0])
        self.check(15, 3, x, [5 * step, -5 * step, 7 * step], [step / 4, -step / 4, 0.0])

    def test_halves_between_two_multiples(self):
        x = [0.5, 1.5, 2.5, -0.5, -1.5, -2.5]
        self.check(0, 0, x, [0.0, 2, 2, 0.0, -2, -2], [0.5, -0.5, 0.5, -0.5, 0.5, -0.5])
        self.check(0, 1, x, [0.0, 1, 2, -1, -2, -3], [0.5] * 6)
        self.check(0, 2, x, [1, 2, 3, 0.0, -1, -2], [-0.5] * 6)
        self.check(0, 3, x, [0.0, 1, 2, 0.0, -1, -2], [0.5, 0.5, 0.5, -0.5, -0.5, -0.5])
        for k in range(16):
            step = 2.0 ** -k
            self.check(k, 0, [v * step for v in x], [v * step for v in (0.0, 2, 2, 0.0, -2, -2)],
                       [v * step for v in (0.5, -0.5, 0.5, -0.5, 0.5, -0.5)])

    def test_zero_is_plus_0(self):
        for k in (0, 15):
            for way in range(4):
                self.check(k, way, [-0.0, 0.0], [0.0, 0.0], [0.0, 0.0])
        self.check(0, 2, [-0.25], [0.0], [-0.25])
        self.check(0, 3, [-0.25], [0.0], [-0.25])
        self.check(0, 0, [-0.25], [0.0], [-0.25])

    def test_least_numbers(self):
        self.check(0, 0, [LEAST, -LEAST], [0.0, 0.0], [LEAST, -LEAST])
        self.check(0, 1, [LEAST, -LEAST], [0.0, -1], [LEAST, 1])
        self.check(0, 2, [LEAST, -LEAST], [1, 0.0], [-1, -LEAST])
        self.check(0, 3, [LEAST, -LEAST], [0.0, 0.0], [LEAST, -LEAST])
        self.check(15, 2, [LEAST], [2.0 ** -15], [-2.0 ** -15])

    def test_what_is_left_is_told(self):
        # 1 - 2^-54 lies between two numbers, 1 the one whose last bit is 0.
        self.check(0, 2, [2.0 ** -54], [1], [-1])
        self.check(0, 2, [3 * 2.0 ** -54], [1], [-1 + 2.0 ** -52])
        self.check(0, 2, [2.0 ** -54 + 2.0 ** -106], [1], [-1 + 2.0 ** -53])
        self.check(0, 1, [-2.0 ** -54], [-1], [1])

    def test_greatest_numbers(self):
        for way in range(4):
            for k in (0, 7, 15):
                x = [GREATEST, -GREATEST, 2.0 ** 53 - 1, 1e300]
                self.check(k, way, x, x, [0.0] * 4)
        self.check(0, 2, [2.0 ** 52 - 0.5], [2.0 ** 52], [-0.5])
        self.check(0, 0, [2.0 ** 52 - 0.5], [2.0 ** 52], [-0.5])
        self.check(0, 1, [2.0 ** 52 - 0.5], [2.0 ** 52 - 1], [0.5])

    def test_order_of_what_is_told(self):
        self.check(1, 1, [0.75, 5.25, -7], [0.5, 5, -7], [0.25, 0.25, 0.0])

    def test_length_of_the_row(self):
        self.assertEqual(grid(0, 0, []), [0])
        self.assertEqual(grid(3, 2, [ONE] * 4096), [0] + [ONE] * 4096 + [0] * 4096)
        self.assertEqual(grid(3, 2, [ONE] * 4097), [-8])

    def test_wrong_k_and_way(self):
        for k in (16, 17, 2 ** 64 - 1):
            self.assertEqual(grid(k, 0, [ONE]), [-8])
        for way in (4, 5, 2 ** 64 - 1):
            self.assertEqual(grid(0, way, [ONE]), [-8])
        self.assertEqual(grid(16, 0, []), [-8])
        self.assertEqual(grid(0, 4, []), [-8])
        self.assertEqual(grid(15, 3, [ONE]), [0, ONE, 0])

    def test_wrong_numbers(self):
        for wrong in NOT_FINITE:
            self.assertEqual(grid(0, 0, [wrong]), [-8])
            self.assertEqual(grid(0, 0, [ONE, ONE, wrong]), [-8])

    def test_against_fractions(self):
        source = random.Random(25)
        for number in (lambda s: near_number(s, 20), any_number, lambda s: bits(s.choice(EXTREMES))):
            for k in range(16):
                for way in range(4):
                    x = [number(source) for _ in range(8)]
                    self.assertEqual(grid(k, way, x), true_grid(k, way, x), (k, way, x))
