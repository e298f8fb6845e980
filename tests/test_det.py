"""Point 16: det."""

import itertools
import random
import unittest

from exactplaces.exact import det
from helper import ABOVE_ONE, EXTREMES, GREATEST, LEAST, any_number, bits, near_number
from truth import answer_of, numbers_of, values_of

ONE = bits(1.0)


# By all ways to take one number of each row and column.
def determinant_of(n, values):
    total = 0
    for order in itertools.permutations(range(n)):
        swaps = sum(order[i] > order[j] for i in range(n) for j in range(i, n))
        term = -1 if swaps % 2 else 1
        for row, column in enumerate(order):
            term *= values[row * n + column]
        total += term
    return total


def true_det(n, numbers):
    return answer_of([determinant_of(n, values_of(numbers))])


def diagonal(values):
    n = len(values)
    return [values[row] if row == column else 0 for row in range(n) for column in range(n)]


class DetTest(unittest.TestCase):
    def check(self, n, values, answer):
        numbers = numbers_of(values)
        expected = [0, bits(answer)] if isinstance(answer, float) else [answer]
        self.assertEqual(true_det(n, numbers), expected)
        self.assertEqual(det(n, numbers), expected)
        turned = [numbers[row * n + column] for column in range(n) for row in range(n)]
        self.assertEqual(det(n, turned), expected)

    def test_each_size(self):
        self.check(1, [-3.5], -3.5)
        self.check(2, [1, 2, 3, 4], -2.0)
        self.check(3, [2, 0, 1, 1, 3, 2, 1, 1, 4], 18.0)
        self.check(4, [1, 2, 0, 1, 0, 3, 1, 2, 4, 0, 1, 1, 2, 1, 0, 5], 48.0)
        self.check(5, [2, 1, 0, 0, 0, 1, 2, 1, 0, 0, 0, 1, 2, 1, 0, 0, 0, 1, 2, 1, 0, 0, 0, 1, 2], 6.0)
        for n in range(1, 6):
            self.check(n, diagonal([2, 3, 5, 7, 11][:n]), float([2, 6, 30, 210, 2310][n - 1]))

    def test_rows_that_are_swapped(self):
        for order in itertools.permutations(range(4)):
            values = [[2, 3, 5, 7][row] if order[row] == column else 0 for row in range(4) for column in range(4)]
            swaps = sum(order[i] > order[j] for i in range(4) for j in range(i, 4))
            self.check(4, values, -210.0 if swaps % 2 else 210.0)

    def test_zero(self):
        self.check(1, [-0.0], 0.0)
        self.check(2, [2, 3, 4, 6], 0.0)
        self.check(2, [-0.0, 0, 0, -0.0], 0.0)
        self.check(3, [1, 2, 3, 4, 5, 6, 7, 8, 9], 0.0)
        self.check(2, [GREATEST, GREATEST, GREATEST, GREATEST], 0.0)
        self.check(2, [LEAST, LEAST, LEAST, -LEAST], 0.0)

    def test_where_rounding_at_each_step_fails(self):
        self.check(2, [ABOVE_ONE, 1, 1 + 2.0 ** -51, ABOVE_ONE], 2.0 ** -104)
        self.check(2, [1e200, 1e200, 1e200, 1e200], 0.0)
        self.check(3, [GREATEST, 0, 0, 0, GREATEST, 0, 0, 0, 2.0 ** -1000], -7)
        self.check(3, [2.0 ** 1000, 0, 0, 0, 2.0 ** 1000, 0, 0, 0, LEAST], 2.0 ** 926)
        self.check(5, diagonal([LEAST, 2.0 ** 1000, LEAST, 2.0 ** 1000, 3]), 3 * 2.0 ** -148)

    def test_halves(self):
        self.check(2, [3, 0, 0, 3002399751580331], 2.0 ** 53)
        self.check(2, [0, 5, 1801439850948199, 0], -2.0 ** 53 - 4)
        self.check(3, [3, 0, 0, 0, 3002399751580331, LEAST, 0, -LEAST, 1], 2.0 ** 53 + 2)

    def test_least_numbers(self):
        self.check(1, [LEAST], LEAST)
        self.check(2, diagonal([LEAST, 0.5]), 0.0)
        self.check(2, diagonal([LEAST, -0.5]), 0.0)
        self.check(2, diagonal([3 * LEAST, 0.5]), 2 * LEAST)
        self.check(2, [LEAST, LEAST, -LEAST, 0.5], LEAST)
        self.check(5, diagonal([LEAST] * 5), 0.0)

    def test_beyond_the_greatest_number_or_not(self):
        self.check(1, [GREATEST], GREATEST)
        self.check(1, [-GREATEST], -GREATEST)
        self.check(2, [GREATEST, 2.0 ** 500, -2.0 ** 470, 1], -7)
        self.check(2, [GREATEST, 2.0 ** 500, -2.0 ** 469, 1], GREATEST)
        self.check(2, diagonal([GREATEST, 2]), -7)
        self.check(5, diagonal([GREATEST] * 5), -7)
        self.check(5, diagonal([-GREATEST] * 5), -7)

    def test_counts(self):
        for n in (0, 6, 7, 2 ** 64 - 1):
            for count in (0, 1, 4, 25, 36):
                self.assertEqual(det(n, [ONE] * count), [-8])
        for n in range(1, 6):
            self.assertEqual(det(n, numbers_of(diagonal([1] * n))), [0, ONE])
            for count in (0, n, n * n - 1, n * n + 1, (n + 1) * (n + 1)):
                if count != n * n:
                    self.assertEqual(det(n, [ONE] * count), [-8])

    def test_against_fractions(self):
        source = random.Random(16)
        for number in (near_number, any_number, lambda s: bits(s.choice(EXTREMES))):
            for n in range(1, 6):
                for _ in range(40 if n < 5 else 10):
                    numbers = [number(source) for _ in range(n * n)]
                    self.assertEqual(det(n, numbers), true_det(n, numbers), (n, numbers))
