"""Point 14: sum, dot and norm."""

import math
import random
import unittest

from exactplaces.exact import dot, norm, sum_of
from helper import (ABOVE_ONE, EXTREMES, GREATEST, LEAST, LEAST_NORMAL, NOT_FINITE,
                    any_number, bits, near_number)
from truth import answer_of, inner, numbers_of, root_of, values_of

ONE = bits(1.0)
HALF_STEP = 2.0 ** -53
# Half of the last bit of the greatest number, and the number next below it.
HALF_TOP = 2.0 ** 970
BELOW_HALF_TOP = math.nextafter(HALF_TOP, 0)


def true_sum(x):
    return answer_of([sum(values_of(x))])


def true_dot(x, y):
    return answer_of([inner(values_of(x), values_of(y))])


def true_norm(x):
    return answer_of([root_of(inner(values_of(x), values_of(x)))])


# Rows of each kind: near together, far apart, of chosen edges, and some that
# all but cancel out.
def random_rows(source, count):
    for number in (near_number, any_number, lambda s: bits(s.choice(EXTREMES))):
        for _ in range(count):
            row = [number(source) for _ in range(source.randrange(9))]
            yield row
            yield row + [x ^ 1 << 63 for x in row] + [number(source)]


class SumTest(unittest.TestCase):
    def check(self, x, answer):
        numbers = numbers_of(x)
        expected = [-7] if answer is None else [0, bits(answer)]
        self.assertEqual(true_sum(numbers), expected)
        self.assertEqual(sum_of(numbers), expected)
        self.assertEqual(sum_of(numbers[::-1]), expected)

    def test_ordinary_rows(self):
        self.check([1, 2, 3.5], 6.5)
        self.check([-7], -7.0)
        self.check([0.1, 0.2, -3], -2.7)

    def test_where_rounding_at_each_step_fails(self):
        for x, answer in (([1e16, 1, -1e16], 1.0), ([1, 1e100, 1, -1e100], 2.0), ([0.1] * 10, 1.0),
                          ([GREATEST, GREATEST, -GREATEST], GREATEST), ([1, HALF_STEP, 2.0 ** -106], ABOVE_ONE)):
            stepwise = 0.0
            for part in x:
                stepwise += part
            self.assertNotEqual(stepwise, answer)
            self.check(x, answer)

    def test_halves(self):
        self.check([1, HALF_STEP], 1.0)
        self.check([ABOVE_ONE, HALF_STEP], 1 + 2.0 ** -51)
        self.check([-1, -HALF_STEP], -1.0)
        self.check([-ABOVE_ONE, -HALF_STEP], -1 - 2.0 ** -51)
        self.check([1, HALF_STEP, LEAST], ABOVE_ONE)
        self.check([ABOVE_ONE, HALF_STEP, -LEAST], ABOVE_ONE)

    def test_a_half_that_is_carried_on(self):
        self.check([2 - 2.0 ** -52, HALF_STEP], 2.0)
        self.check([LEAST_NORMAL, -LEAST], LEAST_NORMAL - LEAST)

    def test_empty_row_and_what_cancels_out(self):
        self.check([], 0.0)
        self.check([-0.0], 0.0)
        self.check([-0.0, -0.0], 0.0)
        self.check([3, -3], 0.0)
        self.check([GREATEST, LEAST, -GREATEST, -LEAST], 0.0)

    def test_least_numbers(self):
        self.check([LEAST], LEAST)
        self.check([-LEAST, -LEAST], -2 * LEAST)
        self.check([1, LEAST, -1], LEAST)
        self.check([LEAST_NORMAL - LEAST, LEAST], LEAST_NORMAL)

    def test_beyond_the_greatest_number_or_not(self):
        self.check([GREATEST], GREATEST)
        self.check([GREATEST, HALF_TOP], None)
        self.check([GREATEST, BELOW_HALF_TOP], GREATEST)
        self.check([GREATEST, HALF_TOP, -LEAST], GREATEST)
        self.check([-GREATEST, -HALF_TOP], None)
        self.check([-GREATEST, -HALF_TOP, LEAST], -GREATEST)
        self.check([GREATEST] * 5 + [-GREATEST] * 3, None)

    def test_length_of_the_row(self):
        self.assertEqual(sum_of([ONE] * 4096), [0, bits(4096.0)])
        self.assertEqual(sum_of([ONE] * 4097), [-8])
        self.assertEqual(sum_of([bits(GREATEST)] * 4096), [-7])
        self.assertEqual(sum_of([bits(GREATEST)] * 4097), [-8])

    def test_against_fractions(self):
        for x in random_rows(random.Random(14), 200):
            self.assertEqual(sum_of(x), true_sum(x), x)


class DotTest(unittest.TestCase):
    def check(self, x, y, answer):
        x, y = numbers_of(x), numbers_of(y)
        expected = [-7] if answer is None else [0, bits(answer)]
        self.assertEqual(true_dot(x, y), expected)
        self.assertEqual(dot(x, y), expected)
        self.assertEqual(dot(y[::-1], x[::-1]), expected)

    def test_ordinary_rows(self):
        self.check([1, 2, 3], [4, -5, 6], 12.0)
        self.check([0.5], [-3], -1.5)
        self.check([0.1, 0.2], [0.3, 0.4], 0.11000000000000001)

    def test_where_rounding_at_each_step_fails(self):
        for x, y, answer in (([ABOVE_ONE, 1], [ABOVE_ONE, -1 - 2.0 ** -51], 2.0 ** -104),
                             ([1e200, 1, -1e200], [1e200, 3, 1e200], 3.0)):
            stepwise = 0.0
            for one, other in zip(x, y):
                stepwise += one * other
            self.assertNotEqual(stepwise, answer)
            self.check(x, y, answer)

    def test_halves(self):
        self.check([1, HALF_STEP], [1, 1], 1.0)
        self.check([ABOVE_ONE, HALF_STEP], [1, 1], 1 + 2.0 ** -51)
        self.check([1, HALF_STEP, LEAST], [1, 1, LEAST], ABOVE_ONE)
        self.check([2.0 ** 27 + 1], [2.0 ** 26 + 1], 2.0 ** 53 + 2.0 ** 27 + 2.0 ** 26)
        # 2^53 + 1 and 2^53 + 3, each between two numbers.
        self.check([3], [3002399751580331], 2.0 ** 53)
        self.check([5], [-1801439850948199], -2.0 ** 53 - 4)

    def test_empty_rows_and_what_cancels_out(self):
        self.check([], [], 0.0)
        self.check([-0.0], [5], 0.0)
        self.check([3, -0.5], [1, 6], 0.0)
        self.check([LEAST, -LEAST], [LEAST, LEAST], 0.0)

    def test_least_numbers(self):
        self.check([LEAST], [1], LEAST)
        self.check([LEAST], [LEAST], 0.0)
        self.check([-LEAST], [LEAST], 0.0)
        self.check([LEAST], [0.5], 0.0)
        self.check([3 * LEAST], [0.5], 2 * LEAST)
        self.check([-3 * LEAST], [0.5], -2 * LEAST)
        self.check([LEAST, LEAST], [0.5, LEAST], LEAST)
        self.check([-LEAST, -LEAST], [0.5, LEAST], -LEAST)
        self.check([2.0 ** -537, 2.0 ** -537], [2.0 ** -538, 2.0 ** -538], LEAST)

    def test_beyond_the_greatest_number_or_not(self):
        self.check([GREATEST], [1], GREATEST)
        self.check([GREATEST, 2.0 ** 500], [1, 2.0 ** 470], None)
        self.check([GREATEST, 2.0 ** 500, LEAST], [1, 2.0 ** 470, -LEAST], GREATEST)
        self.check([GREATEST, GREATEST], [GREATEST, -GREATEST], 0.0)
        self.check([-GREATEST], [GREATEST], None)
        self.check([GREATEST, GREATEST, 1], [GREATEST, -GREATEST, 7], 7.0)

    def test_lengths_of_the_rows(self):
        self.assertEqual(dot([ONE] * 4096, [ONE] * 4096), [0, bits(4096.0)])
        self.assertEqual(dot([ONE] * 4097, [ONE] * 4097), [-8])
        self.assertEqual(dot([ONE] * 4096, [ONE] * 4097), [-8])
        self.assertEqual(dot([ONE] * 4096, [ONE] * 4095), [-8])
        for x, y in (([ONE], []), ([], [ONE]), ([ONE, 0], [ONE]), ([bits(GREATEST)] * 2, [bits(GREATEST)])):
            self.assertEqual(dot(x, y), [-8])

    def test_against_fractions(self):
        source = random.Random(24)
        for x in random_rows(source, 150):
            y = [source.choice((near_number, any_number))(source) for _ in x]
            self.assertEqual(dot(x, y), true_dot(x, y), (x, y))
            self.assertEqual(dot(x, x[::-1]), true_dot(x, x[::-1]), x)


class NormTest(unittest.TestCase):
    def check(self, x, answer):
        numbers = numbers_of(x)
        expected = [-7] if answer is None else [0, bits(answer)]
        self.assertEqual(true_norm(numbers), expected)
        self.assertEqual(norm(numbers), expected)
        self.assertEqual(norm(numbers[::-1]), expected)

    def test_ordinary_rows(self):
        self.check([3, 4], 5.0)
        self.check([-3, 4, -12], 13.0)
        self.check([-7], 7.0)
        self.check([1, 1], math.sqrt(2))
        self.check([1, 1, 1], math.sqrt(3))
        self.check([0.1], 0.1)

    def test_where_rounding_at_each_step_fails(self):
        for x, answer in (([3 * 2.0 ** 700, 4 * 2.0 ** 700], 5 * 2.0 ** 700), ([2.0 ** -700], 2.0 ** -700),
                          ([0.1, 0.1], 0.1414213562373095), ([1.7, 1.1], 2.024845673131659)):
            stepwise = 0.0
            for part in x:
                stepwise += part * part
            self.assertNotEqual(math.sqrt(stepwise), answer)
            self.check(x, answer)

    def test_halves(self):
        self.check([2.0 ** 53, 2.0 ** 27, 1], 2.0 ** 53)
        self.check([2.0 ** 53, 2.0 ** 27, 2.0 ** 27, 2.0 ** 27, 3], 2.0 ** 53 + 4)
        self.check([2.0 ** 53, 2.0 ** 27, 1, LEAST], 2.0 ** 53 + 2)

    def test_empty_row_and_zeros(self):
        self.check([], 0.0)
        self.check([-0.0], 0.0)
        self.check([0.0, -0.0, 0.0], 0.0)

    def test_least_numbers(self):
        self.check([LEAST], LEAST)
        self.check([-LEAST], LEAST)
        self.check([LEAST] * 2, LEAST)
        self.check([LEAST] * 3, 2 * LEAST)
        self.check([LEAST] * 4, 2 * LEAST)
        self.check([LEAST_NORMAL, LEAST], LEAST_NORMAL)
        self.check([1, LEAST], 1.0)

    def test_beyond_the_greatest_number_or_not(self):
        self.check([GREATEST], GREATEST)
        self.check([-GREATEST, LEAST], GREATEST)
        self.check([GREATEST, 2.0 ** 997], GREATEST)
        self.check([GREATEST, 2.0 ** 998], None)
        self.check([GREATEST, GREATEST], None)
        self.check([2.0 ** 1023] * 4, None)
        self.check([2.0 ** 1023] * 3, math.sqrt(3) * 2.0 ** 1023)

    def test_length_of_the_row(self):
        self.assertEqual(norm([ONE] * 4096), [0, bits(64.0)])
        self.assertEqual(norm([ONE] * 4097), [-8])

    def test_against_fractions(self):
        for x in random_rows(random.Random(34), 80):
            self.assertEqual(norm(x), true_norm(x), x)


class WrongNumbersTest(unittest.TestCase):
    def test_no_finite_double(self):
        for wrong in NOT_FINITE:
            for row in ([wrong], [ONE, wrong], [wrong, ONE], [ONE, wrong, ONE]):
                right = [ONE] * len(row)
                self.assertEqual(sum_of(row), [-8])
                self.assertEqual(norm(row), [-8])
                self.assertEqual(dot(row, right), [-8])
                self.assertEqual(dot(right, row), [-8])

    def test_ahead_of_what_cannot_be_told(self):
        great = [bits(GREATEST)] * 2
        for wrong in NOT_FINITE:
            self.assertEqual(sum_of(great + [wrong]), [-8])
            self.assertEqual(norm(great + [wrong]), [-8])
            self.assertEqual(dot(great + [wrong], great + [0]), [-8])
            self.assertEqual(dot(great + [0], great + [wrong]), [-8])
