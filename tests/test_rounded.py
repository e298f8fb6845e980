"""Point 28: rounded."""

import math
import random
import unittest

from exactplaces.exact import rounded
from helper import ABOVE_ONE, BELOW_ONE, GREATEST, LEAST, LEAST_NORMAL, NOT_FINITE, SIZES, bits
from truth import numbers_of, root_of, rounded_by, values_of

ONE = bits(1.0)
SUM, DIFFERENCE, PRODUCT, QUOTIENT, ROOT = range(5)
TWO_STEPS = 1 + 2.0 ** -51


def exact(op, x, y):
    if op == QUOTIENT:
        return None if y == 0 else x / y
    if op == ROOT:
        return None if x < 0 else root_of(x)
    return (x + y, x - y, x * y)[op]


def true_rounded(op, way, x, y):
    values = [exact(op, a, b) for a, b in zip(values_of(x), values_of(y))]
    if None in values:
        return [-5]
    numbers = [rounded_by(way, value) for value in values]
    return [-7] if None in numbers else [0] + numbers


class RoundedTest(unittest.TestCase):
    # The answer by each of the four ways; None for what can't be told.
    def check(self, op, x, y, answers):
        x, y = [bits(float(x))], [bits(float(y))]
        for way, answer in enumerate(answers):
            expected = [-7] if answer is None else [0] + numbers_of([answer])
            self.assertEqual(true_rounded(op, way, x, y), expected, way)
            self.assertEqual(rounded(op, way, x, y), expected, way)

    def test_exact_answers(self):
        self.check(SUM, 3, 4.5, [7.5] * 4)
        self.check(DIFFERENCE, 3, 4.5, [-1.5] * 4)
        self.check(PRODUCT, -3, 4.5, [-13.5] * 4)
        self.check(QUOTIENT, 9, -4, [-2.25] * 4)
        self.check(ROOT, 6.25, 7, [2.5] * 4)
        self.check(ROOT, 2.0 ** -1074, 7, [2.0 ** -537] * 4)

    def test_between_two_numbers(self):
        third = 1 / 3
        self.check(QUOTIENT, 1, 3, [third, third, math.nextafter(third, 1), third])
        self.check(QUOTIENT, -1, 3, [-third, -math.nextafter(third, 1), -third, -third])
        self.check(QUOTIENT, 1, 10, [0.1, math.nextafter(0.1, 0), 0.1, math.nextafter(0.1, 0)])
        self.check(QUOTIENT, 1, -10, [-0.1, -0.1, -math.nextafter(0.1, 0), -math.nextafter(0.1, 0)])
        root = math.sqrt(2)
        self.check(ROOT, 2, 0, [root, math.nextafter(root, 0), root, math.nextafter(root, 0)])
        root = math.sqrt(3)
        self.check(ROOT, 3, 0, [root, root, math.nextafter(root, 2), root])
        self.check(SUM, 1, LEAST, [1, 1, ABOVE_ONE, 1])
        self.check(SUM, -1, -LEAST, [-1, -ABOVE_ONE, -1, -1])
        self.check(DIFFERENCE, 1, LEAST, [1, BELOW_ONE, 1, BELOW_ONE])
        self.check(DIFFERENCE, -1, -LEAST, [-1, -1, -BELOW_ONE, -BELOW_ONE])
        self.check(PRODUCT, ABOVE_ONE, ABOVE_ONE, [TWO_STEPS, TWO_STEPS, 1 + 3 * 2.0 ** -52, TWO_STEPS])

    def test_halves(self):
        self.check(SUM, 1, 2.0 ** -53, [1, 1, ABOVE_ONE, 1])
        self.check(SUM, ABOVE_ONE, 2.0 ** -53, [TWO_STEPS, ABOVE_ONE, TWO_STEPS, ABOVE_ONE])
        self.check(DIFFERENCE, -1, 2.0 ** -53, [-1, -ABOVE_ONE, -1, -1])
        self.check(PRODUCT, 3, 3002399751580331, [2.0 ** 53, 2.0 ** 53, 2.0 ** 53 + 2, 2.0 ** 53])
        self.check(PRODUCT, -5, 1801439850948199, [-2.0 ** 53 - 4, -2.0 ** 53 - 4, -2.0 ** 53 - 2, -2.0 ** 53 - 2])
        self.check(QUOTIENT, LEAST, 2, [0.0, 0.0, LEAST, 0.0])
        self.check(QUOTIENT, 3 * LEAST, 2, [2 * LEAST, LEAST, 2 * LEAST, LEAST])

    def test_zero_is_plus_0(self):
        self.check(SUM, 1, -1, [0.0] * 4)
        self.check(SUM, -0.0, -0.0, [0.0] * 4)
        self.check(DIFFERENCE, -0.0, 0.0, [0.0] * 4)
        self.check(PRODUCT, -0.0, 5, [0.0] * 4)
        self.check(QUOTIENT, -0.0, 5, [0.0] * 4)
        self.check(QUOTIENT, 0.0, -5, [0.0] * 4)
        self.check(ROOT, -0.0, 5, [0.0] * 4)
        self.check(ROOT, 0.0, 5, [0.0] * 4)

    def test_least_numbers(self):
        self.check(PRODUCT, LEAST, LEAST, [0.0, 0.0, LEAST, 0.0])
        self.check(PRODUCT, -LEAST, LEAST, [0.0, -LEAST, 0.0, 0.0])
        self.check(PRODUCT, LEAST, 0.75, [LEAST, 0.0, LEAST, 0.0])
        self.check(QUOTIENT, -LEAST, 3, [0.0, -LEAST, 0.0, 0.0])
        self.check(QUOTIENT, 1, GREATEST, [2.0 ** -1024, 2.0 ** -1024, 2.0 ** -1024 + LEAST, 2.0 ** -1024])
        self.check(QUOTIENT, LEAST, LEAST, [1] * 4)
        self.check(DIFFERENCE, LEAST_NORMAL, LEAST, [LEAST_NORMAL - LEAST] * 4)

    def test_beyond_the_greatest_number_or_not(self):
        self.check(SUM, GREATEST, 0, [GREATEST] * 4)
        self.check(DIFFERENCE, -GREATEST, 0, [-GREATEST] * 4)
        self.check(PRODUCT, GREATEST, -1, [-GREATEST] * 4)
        self.check(QUOTIENT, GREATEST, 1, [GREATEST] * 4)
        self.check(SUM, GREATEST, GREATEST, [None] * 4)
        self.check(DIFFERENCE, -GREATEST, GREATEST, [None] * 4)
        self.check(PRODUCT, 1e200, 1e200, [None] * 4)
        self.check(QUOTIENT, 1, LEAST, [None] * 4)
        self.check(QUOTIENT, GREATEST, -BELOW_ONE, [None] * 4)

    def test_a_little_beyond_the_greatest_number(self):
        self.check(SUM, GREATEST, LEAST, [GREATEST, None, None, None])
        self.check(SUM, -GREATEST, -LEAST, [-GREATEST, None, None, None])
        self.check(DIFFERENCE, GREATEST, -(2.0 ** 969), [GREATEST, None, None, None])
        self.check(SUM, GREATEST, 2.0 ** 970, [None] * 4)
        self.check(SUM, GREATEST, math.nextafter(2.0 ** 970, 0), [GREATEST, None, None, None])
        self.check(SUM, GREATEST, -LEAST, [GREATEST, GREATEST - 2.0 ** 971, GREATEST, GREATEST - 2.0 ** 971])
        self.check(SUM, -GREATEST, LEAST, [-GREATEST, -GREATEST, -GREATEST + 2.0 ** 971, -GREATEST + 2.0 ** 971])

    def test_roots_of_edges(self):
        root = math.sqrt(GREATEST)
        self.check(ROOT, GREATEST, 1, [root, root, math.nextafter(root, math.inf), root])
        self.check(ROOT, LEAST * 2, 1, [math.sqrt(2 * LEAST), math.nextafter(math.sqrt(2 * LEAST), 0),
                                        math.sqrt(2 * LEAST), math.nextafter(math.sqrt(2 * LEAST), 0)])
        self.check(ROOT, ABOVE_ONE, 1, [1, 1, ABOVE_ONE, 1])
        self.check(ROOT, BELOW_ONE, 1, [BELOW_ONE, BELOW_ONE, 1, BELOW_ONE])

    def test_a_root_doesnt_look_at_y(self):
        for y in (0.0, -0.0, -3, GREATEST, LEAST):
            self.check(ROOT, 9, y, [3] * 4)

    def test_not_there(self):
        for way in range(4):
            for zero in (0.0, -0.0):
                for x in (0.0, 1, -1, GREATEST):
                    self.assertEqual(rounded(QUOTIENT, way, numbers_of([x]), numbers_of([zero])), [-5])
            for x in (-LEAST, -1, -GREATEST):
                self.assertEqual(rounded(ROOT, way, numbers_of([x]), numbers_of([1])), [-5])

    def test_not_there_comes_before_what_cannot_be_told(self):
        for way in range(4):
            self.assertEqual(rounded(QUOTIENT, way, numbers_of([1, 1]), numbers_of([LEAST, 0])), [-5])
            self.assertEqual(rounded(QUOTIENT, way, numbers_of([1, 1]), numbers_of([0, LEAST])), [-5])
            self.assertEqual(rounded(QUOTIENT, way, numbers_of([1, 1]), numbers_of([2, LEAST])), [-7])
            self.assertEqual(rounded(ROOT, way, numbers_of([1, 4, -1]), numbers_of([1, 1, 1])), [-5])

    def test_several_pairs(self):
        x, y = numbers_of([7, -9, 0.5]), numbers_of([2, 3, -4])
        self.assertEqual(rounded(SUM, 0, x, y), [0] + numbers_of([9, -6, -3.5]))
        self.assertEqual(rounded(DIFFERENCE, 1, x, y), [0] + numbers_of([5, -12, 4.5]))
        self.assertEqual(rounded(PRODUCT, 2, x, y), [0] + numbers_of([14, -27, -2]))
        self.assertEqual(rounded(QUOTIENT, 3, x, y), [0] + numbers_of([3.5, -3, -0.125]))

    def test_lengths_of_the_rows(self):
        for op in range(5):
            for way in range(4):
                self.assertEqual(rounded(op, way, [], []), [0])
                for x, y in (([ONE], []), ([], [ONE]), ([ONE] * 3, [ONE] * 2)):
                    self.assertEqual(rounded(op, way, x, y), [-8])
            self.assertEqual(len(rounded(op, 0, [ONE] * 4096, [ONE] * 4096)), 4097)
            self.assertEqual(rounded(op, 0, [ONE] * 4097, [ONE] * 4097), [-8])

    def test_wrong_op_and_way(self):
        for row in ([], [ONE], [0]):
            for wrong in (5, 6, 2 ** 64 - 1):
                self.assertEqual(rounded(wrong, 0, row, row), [-8])
            for wrong in (4, 5, 2 ** 64 - 1):
                for op in range(5):
                    self.assertEqual(rounded(op, wrong, row, row), [-8])

    def test_wrong_comes_first(self):
        great = bits(GREATEST)
        for wrong in NOT_FINITE:
            for op in range(5):
                self.assertEqual(rounded(op, 0, [great, wrong], [great, ONE]), [-8])
                self.assertEqual(rounded(op, 0, [great, ONE], [great, wrong]), [-8])
            self.assertEqual(rounded(QUOTIENT, 0, [ONE, ONE], [0, wrong]), [-8])
            self.assertEqual(rounded(ROOT, 0, [bits(-1.0), ONE], [0, wrong]), [-8])
        self.assertEqual(rounded(QUOTIENT, 0, [ONE, ONE], [0]), [-8])

    def test_against_fractions(self):
        source = random.Random(28)
        seen = set()
        for size in SIZES:
            for op in range(5):
                for way in range(4):
                    for _ in range(40):
                        count = source.randrange(1, 4)
                        x, y = [[size(source) for _ in range(count)] for _ in range(2)]
                        if op == ROOT and source.randrange(4):
                            x = [n & ~(1 << 63) for n in x]
                        answer = true_rounded(op, way, x, y)
                        seen.add(answer[0])
                        self.assertEqual(rounded(op, way, x, y), answer, (op, way, x, y))
        self.assertEqual(seen, {0, -5, -7})
