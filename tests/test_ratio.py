"""Point 14: ratio."""

import random
import unittest

from exactplaces.exact import ratio
from helper import ABOVE_ONE, BELOW_ONE, EXTREMES, GREATEST, LEAST, NOT_FINITE, any_number, bits, near_number
from truth import answer_of, inner, numbers_of, values_of

ONE = bits(1.0)


def true_ratio(x, y, u, v):
    x, y, u, v = [values_of(row) for row in (x, y, u, v)]
    divisor = inner(u, v)
    return [-5] if divisor == 0 else answer_of([inner(x, y) / divisor])


class RatioTest(unittest.TestCase):
    def check(self, x, y, u, v, answer):
        rows = [numbers_of(row) for row in (x, y, u, v)]
        expected = [0, bits(answer)] if isinstance(answer, float) else [answer]
        self.assertEqual(true_ratio(*rows), expected)
        self.assertEqual(ratio(*rows), expected)
        self.assertEqual(ratio(rows[1], rows[0], rows[3], rows[2]), expected)

    def test_ordinary_rows(self):
        self.check([1, 2, 3], [4, 5, 6], [2], [4], 4.0)
        self.check([1], [1], [3], [1], 1 / 3)
        self.check([2], [5], [3, 4, 7], [1, 1, 0], 10 / 7)
        self.check([], [], [3], [1], 0.0)

    def test_signs_of_either_kind(self):
        self.check([7], [1], [2], [1], 3.5)
        self.check([-7], [1], [2], [1], -3.5)
        self.check([7], [1], [-2], [1], -3.5)
        self.check([-7], [1], [2], [-1], 3.5)
        self.check([1], [-1], [3], [1], -1 / 3)
        self.check([1], [1], [3], [-1], -1 / 3)

    def test_where_rounding_at_each_step_fails(self):
        self.check([1e200, 1, -1e200], [1e200, 3, 1e200], [1e300, 4, 1e300], [1e100, 1, -1e100], 0.75)
        self.check([GREATEST], [GREATEST], [GREATEST], [GREATEST], 1.0)
        self.check([LEAST], [LEAST], [LEAST, LEAST], [LEAST, LEAST], 0.5)
        self.check([ABOVE_ONE, 1], [ABOVE_ONE, -1 - 2.0 ** -51], [LEAST], [2.0 ** 970], 1.0)

    def test_halves(self):
        self.check([1, 2.0 ** -53], [1, 1], [1], [1], 1.0)
        self.check([ABOVE_ONE, 2.0 ** -53], [1, 1], [-1], [1], -1 - 2.0 ** -51)
        self.check([3, 3], [1, 2.0 ** -53], [3], [1], 1.0)
        self.check([3, 3, LEAST], [1, 2.0 ** -53, LEAST], [3], [1], ABOVE_ONE)
        self.check([3, 3, -LEAST], [ABOVE_ONE, 2.0 ** -53, LEAST], [3], [1], ABOVE_ONE)
        self.check([1], [1], [BELOW_ONE], [1], ABOVE_ONE)

    def test_zero(self):
        self.check([0], [-3], [5], [1], 0.0)
        self.check([-0.0], [3], [-5], [1], 0.0)
        self.check([3, -1], [1, 3], [5], [-1], 0.0)
        self.check([-LEAST], [LEAST], [1], [1], 0.0)

    def test_least_numbers(self):
        self.check([LEAST], [1], [1], [1], LEAST)
        self.check([LEAST], [1], [2], [1], 0.0)
        self.check([-3 * LEAST], [1], [2], [1], -2 * LEAST)
        self.check([LEAST], [1], [3], [0.5], LEAST)
        self.check([LEAST], [1], [1, 1], [2, LEAST], 0.0)
        self.check([LEAST], [1], [1, -1], [2, LEAST], LEAST)

    def test_beyond_the_greatest_number_or_not(self):
        self.check([GREATEST], [3], [3], [1], GREATEST)
        self.check([GREATEST], [1], [BELOW_ONE], [1], -7)
        self.check([1], [1], [LEAST], [1], -7)
        self.check([1], [-1], [LEAST], [LEAST], -7)
        self.check([GREATEST, 2.0 ** 970], [3, 3], [3], [1], -7)
        self.check([GREATEST, 2.0 ** 970, -LEAST], [3, 3, 1], [3], [1], GREATEST)

    def test_nothing_to_divide_by(self):
        self.check([1], [1], [0], [5], -5)
        self.check([1], [1], [-0.0], [5], -5)
        self.check([1], [1], [], [], -5)
        self.check([], [], [], [], -5)
        self.check([0], [0], [3, 1], [1, -3], -5)
        self.check([GREATEST], [GREATEST], [3, 1], [1, -3], -5)
        self.check([1], [1], [LEAST], [LEAST], -7)

    def test_lengths(self):
        one, most, more = [ONE], [ONE] * 4096, [ONE] * 4097
        self.assertEqual(ratio(most, most, one, one), [0, bits(4096.0)])
        self.assertEqual(ratio(one, one, most, most), [0, bits(1 / 4096)])
        self.assertEqual(ratio(most, most, most, most), [0, ONE])
        for rows in ((more, more, one, one), (one, one, more, more), (one, [], one, one), ([], one, one, one),
                     (one, one, one, []), (one, one, [], one), (most, one, most, one), (one, one, one, one + one)):
            self.assertEqual(ratio(*rows), [-8])

    def test_wrong_comes_before_what_is_not_there(self):
        zero = [0]
        great = [bits(GREATEST)]
        for wrong in NOT_FINITE:
            self.assertEqual(ratio([wrong], zero, zero, zero), [-8])
            self.assertEqual(ratio(zero, zero, zero, [wrong]), [-8])
            self.assertEqual(ratio(great, great, zero, [wrong]), [-8])
        self.assertEqual(ratio(great, great, zero, []), [-8])
        self.assertEqual(ratio(great, [], zero, zero), [-8])

    def test_against_fractions(self):
        source = random.Random(44)
        edge = lambda s: bits(s.choice(EXTREMES))
        for number in (near_number, any_number, edge):
            for _ in range(500):
                one, other = source.randrange(4), source.randrange(1, 4)
                rows = [[number(source) for _ in range(count)] for count in (one, one, other, other)]
                self.assertEqual(ratio(*rows), true_ratio(*rows), rows)
