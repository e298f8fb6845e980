"""Point 29: both."""

import math
import random
import unittest

from exactplaces.exact import both
from helper import ABOVE_ONE, BELOW_ONE, GREATEST, LEAST, NOT_FINITE, SIZES, any_interval, bits
from truth import intervals_answer, intervals_of, numbers_of, products

ONE = bits(1.0)
SUM, DIFFERENCE, PRODUCT, QUOTIENT, HULL, COMMON = range(6)
HALF_TOP = 2.0 ** 970


def members(op, X, Y):
    if op == SUM:
        return [x + y for x in X for y in Y]
    if op == DIFFERENCE:
        return [x - y for x in X for y in Y]
    if op == PRODUCT:
        return products(X, Y)
    if op == QUOTIENT:
        return None if Y[0] <= 0 <= Y[1] else [x / y for x in X for y in Y]
    if op == HULL:
        return [*X, *Y]
    # Whatever is in both: of all ends those that are.
    return [v for v in (*X, *Y) if X[0] <= v <= X[1] and Y[0] <= v <= Y[1]] or None


def true_both(op, X, Y):
    sets = [members(op, one, other) for one, other in zip(intervals_of(X), intervals_of(Y))]
    return [-5] if None in sets else intervals_answer(sets)


class BothTest(unittest.TestCase):
    def check(self, op, X, Y, answer):
        X, Y = numbers_of(X), numbers_of(Y)
        expected = [0] + numbers_of(answer) if isinstance(answer, tuple) else [answer]
        self.assertEqual(true_both(op, X, Y), expected)
        self.assertEqual(both(op, X, Y), expected)
        if op in (SUM, PRODUCT, HULL, COMMON):
            self.assertEqual(both(op, Y, X), expected)

    def test_sums_and_differences(self):
        self.check(SUM, (1, 2), (10, 20), (11, 22))
        self.check(SUM, (-3, -1), (2, 7), (-1, 6))
        self.check(SUM, (-1, 1), (-5, 5), (-6, 6))
        self.check(DIFFERENCE, (1, 2), (10, 20), (-19, -8))
        self.check(DIFFERENCE, (-3, -1), (-2, 7), (-10, 1))
        self.check(DIFFERENCE, (1, 4), (1, 4), (-3, 3))

    def test_products_below_above_and_with_0_within(self):
        above, below, within = (2, 3), (-7, -5), (-2, 4)
        self.check(PRODUCT, above, (5, 11), (10, 33))
        self.check(PRODUCT, above, below, (-21, -10))
        self.check(PRODUCT, above, within, (-6, 12))
        self.check(PRODUCT, below, below, (25, 49))
        self.check(PRODUCT, below, within, (-28, 14))
        self.check(PRODUCT, within, within, (-8, 16))
        self.check(PRODUCT, within, (-3, 1), (-12, 6))
        self.check(PRODUCT, within, (-1, 5), (-10, 20))
        self.check(PRODUCT, (0, 3), (-0.0, 0.0), (0.0, 0.0))
        self.check(PRODUCT, (0, 3), (-2, 0), (-6, 0.0))

    def test_quotients_below_above_and_with_0_within(self):
        self.check(QUOTIENT, (8, 12), (2, 4), (2, 6))
        self.check(QUOTIENT, (8, 12), (-4, -2), (-6, -2))
        self.check(QUOTIENT, (-12, -8), (2, 4), (-6, -2))
        self.check(QUOTIENT, (-12, -8), (-4, -2), (2, 6))
        self.check(QUOTIENT, (-8, 12), (2, 4), (-4, 6))
        self.check(QUOTIENT, (-8, 12), (-4, -2), (-6, 4))
        self.check(QUOTIENT, (0, 12), (2, 4), (0.0, 6))
        self.check(QUOTIENT, (-12, -0.0), (2, 4), (-6, 0.0))
        self.check(QUOTIENT, (0.0, 0.0), (-4, -2), (0.0, 0.0))

    def test_hulls(self):
        self.check(HULL, (1, 2), (5, 6), (1, 6))
        self.check(HULL, (1, 6), (2, 3), (1, 6))
        self.check(HULL, (-5, -2), (-3, 4), (-5, 4))
        self.check(HULL, (-GREATEST, -GREATEST), (GREATEST, GREATEST), (-GREATEST, GREATEST))
        self.check(HULL, (-0.0, -0.0), (-0.0, 0.0), (0.0, 0.0))

    def test_what_is_in_both(self):
        self.check(COMMON, (1, 4), (2, 6), (2, 4))
        self.check(COMMON, (1, 6), (2, 3), (2, 3))
        self.check(COMMON, (1, 2), (2, 3), (2, 2))
        self.check(COMMON, (1, 2), (1, 2), (1, 2))
        self.check(COMMON, (-3, -0.0), (0.0, 5), (0.0, 0.0))

    def test_rounded_outwards(self):
        self.check(SUM, (1, 1), (LEAST, LEAST), (1, ABOVE_ONE))
        self.check(SUM, (-1, -1), (-LEAST, -LEAST), (-ABOVE_ONE, -1))
        self.check(DIFFERENCE, (1, 1), (LEAST, LEAST), (BELOW_ONE, 1))
        self.check(PRODUCT, (LEAST, LEAST), (LEAST, LEAST), (0.0, LEAST))
        self.check(PRODUCT, (-LEAST, LEAST), (0.5, 0.5), (-LEAST, LEAST))
        self.check(PRODUCT, (-LEAST, -LEAST), (0.5, 0.5), (-LEAST, 0.0))
        self.check(QUOTIENT, (1, 1), (3, 3), (1 / 3, math.nextafter(1 / 3, 1)))
        self.check(QUOTIENT, (-1, 1), (10, 10), (-0.1, 0.1))
        self.check(QUOTIENT, (-1, -1), (10, 10), (-0.1, -math.nextafter(0.1, 0)))
        self.check(QUOTIENT, (LEAST, LEAST), (2, GREATEST), (0.0, LEAST))
        self.check(QUOTIENT, (LEAST, LEAST), (0.25, 1), (LEAST, 4 * LEAST))
        self.check(QUOTIENT, (-LEAST, -LEAST), (0.25, 1), (-4 * LEAST, -LEAST))
        self.check(QUOTIENT, (-LEAST, LEAST), (0.25, 1), (-4 * LEAST, 4 * LEAST))

    def test_exact_ends_are_not_widened(self):
        self.check(SUM, (0.5, 0.75), (0.25, 1), (0.75, 1.75))
        self.check(PRODUCT, (2.0 ** -500, 2.0 ** -500), (2.0 ** -574, 2.0 ** -574), (LEAST, LEAST))
        self.check(QUOTIENT, (1, 1), (0.25, 8), (0.125, 4))

    def test_divisors_with_0(self):
        for Y in ((-1, 1), (0, 1), (-1, 0), (0, 0), (-0.0, 1), (-1, -0.0), (0.0, -0.0), (-LEAST, LEAST)):
            self.check(QUOTIENT, (1, 2), Y, -5)
            self.check(QUOTIENT, (0, 0), Y, -5)
        self.check(QUOTIENT, (0, 0), (LEAST, 1), (0.0, 0.0))
        self.check(QUOTIENT, (0, 0), (-1, -LEAST), (0.0, 0.0))

    def test_nothing_in_both(self):
        self.check(COMMON, (1, 2), (3, 4), -5)
        self.check(COMMON, (1, 1), (ABOVE_ONE, 2), -5)
        self.check(COMMON, (-LEAST, -LEAST), (-0.0, 0), -5)

    def test_beyond_the_greatest_number_or_not(self):
        self.check(SUM, (0, GREATEST), (0, 0), (0.0, GREATEST))
        self.check(SUM, (0, GREATEST), (0, LEAST), -7)
        self.check(SUM, (-GREATEST, 0), (-LEAST, 0), -7)
        self.check(SUM, (GREATEST, GREATEST), (LEAST, LEAST), -7)
        self.check(DIFFERENCE, (-GREATEST, GREATEST), (0, 0), (-GREATEST, GREATEST))
        self.check(DIFFERENCE, (-GREATEST, 0), (0, LEAST), -7)
        self.check(PRODUCT, (-GREATEST, GREATEST), (-1, 1), (-GREATEST, GREATEST))
        self.check(PRODUCT, (-GREATEST, 1), (0, ABOVE_ONE), -7)
        self.check(PRODUCT, (-GREATEST, 1), (-ABOVE_ONE, 0), -7)
        self.check(QUOTIENT, (1, GREATEST), (1, 2), (0.5, GREATEST))
        self.check(QUOTIENT, (1, GREATEST), (BELOW_ONE, 2), -7)
        self.check(QUOTIENT, (1, 1), (LEAST, 1), -7)
        self.check(SUM, (GREATEST, GREATEST), (-LEAST, -LEAST), (GREATEST - 2.0 ** 971, GREATEST))
        self.check(SUM, (0, GREATEST), (0, HALF_TOP), -7)

    def test_several_pairs(self):
        X, Y = (1, 2, -3, -1, 0, 4), (1, 1, 2, 2, -2, -1)
        self.check(SUM, X, Y, (2, 3, -1, 1, -2, 3))
        self.check(DIFFERENCE, X, Y, (0.0, 1, -5, -3, 1, 6))
        self.check(PRODUCT, X, Y, (1, 2, -6, -2, -8, 0.0))
        self.check(QUOTIENT, X, Y, (1, 2, -1.5, -0.5, -4, 0.0))
        self.check(HULL, X, Y, (1, 2, -3, 2, -2, 4))

    def test_not_there_comes_before_what_cannot_be_told(self):
        self.check(QUOTIENT, (1, 1, 1, 1), (LEAST, 1, 0, 1), -5)
        self.check(QUOTIENT, (1, 1, 1, 1), (0, 1, LEAST, 1), -5)
        self.check(QUOTIENT, (1, 1, 1, 1), (2, 2, LEAST, 1), -7)

    def test_lengths_of_the_rows(self):
        for op in range(6):
            self.assertEqual(both(op, [], []), [0])
            most = [ONE] * 4096
            self.assertEqual(len(both(op, most, most)), 4097)
            self.assertEqual(both(op, most + [ONE] * 2, most + [ONE] * 2), [-8])
            for X, Y in (([ONE] * 2, []), ([], [ONE] * 2), ([ONE] * 4, [ONE] * 2)):
                self.assertEqual(both(op, X, Y), [-8])

    def test_lists_that_end_in_part(self):
        for op in range(6):
            for count in (1, 3, 4095, 4097):
                self.assertEqual(both(op, [ONE] * count, [ONE] * count), [-8])
            self.assertEqual(both(op, [ONE] * 3, [ONE] * 2), [-8])
            self.assertEqual(both(op, [ONE] * 2, [ONE] * 3), [-8])

    def test_a_low_above_its_high(self):
        for op in range(6):
            for wrong in ((2, 1), (ABOVE_ONE, 1), (LEAST, 0), (-0.0, -LEAST), (1, 2, 3, 2)):
                right = numbers_of((1, 2) * (len(wrong) // 2))
                self.assertEqual(both(op, numbers_of(wrong), right), [-8])
                self.assertEqual(both(op, right, numbers_of(wrong)), [-8])
            self.assertNotEqual(both(op, numbers_of((0.0, -0.0)), numbers_of((-0.0, 0.0))), [-8])

    def test_wrong_op(self):
        for op in (6, 7, 2 ** 64 - 1):
            self.assertEqual(both(op, [], []), [-8])
            self.assertEqual(both(op, [ONE] * 2, [ONE] * 2), [-8])

    def test_wrong_comes_first(self):
        for wrong in NOT_FINITE:
            self.assertEqual(both(QUOTIENT, [ONE] * 4, [0, 0, ONE, wrong]), [-8])
            self.assertEqual(both(QUOTIENT, [ONE, ONE, wrong, ONE], [0, 0, ONE, ONE]), [-8])
        self.assertEqual(both(QUOTIENT, [ONE] * 4, numbers_of((0, 0, 2, 1))), [-8])
        self.assertEqual(both(COMMON, numbers_of((1, 2, 2, 1)), numbers_of((3, 4, 1, 2))), [-8])

    def test_against_fractions(self):
        source = random.Random(29)
        seen = set()
        for size in SIZES:
            for op in range(6):
                for _ in range(80):
                    count = source.randrange(1, 4)
                    X, Y = [[n for _ in range(count) for n in any_interval(source, size)] for _ in range(2)]
                    answer = true_both(op, X, Y)
                    seen.add(answer[0])
                    self.assertEqual(both(op, X, Y), answer, (op, X, Y))
        self.assertEqual(seen, {0, -5, -7})
