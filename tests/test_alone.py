"""Point 30: alone."""

import math
import random
import unittest

from exactplaces.exact import alone
from helper import ABOVE_ONE, BELOW_ONE, GREATEST, LEAST, NOT_FINITE, SIZES, any_interval, bits
from truth import intervals_answer, intervals_of, numbers_of, root_of

ONE = bits(1.0)
NEGATED, SIZE, SQUARE, ROOT, ONE_BY = range(5)


def members(op, X):
    ends = [*X] + ([0] if X[0] <= 0 <= X[1] else [])
    if op == NEGATED:
        return [-x for x in ends]
    if op == SIZE:
        return [abs(x) for x in ends]
    if op == SQUARE:
        return [x * x for x in ends]
    if op == ROOT:
        return None if X[0] < 0 else [root_of(x) for x in ends]
    return None if 0 in ends else [1 / x for x in ends]


def true_alone(op, X):
    sets = [members(op, one) for one in intervals_of(X)]
    return [-5] if None in sets else intervals_answer(sets)


class AloneTest(unittest.TestCase):
    def check(self, op, X, answer):
        X = numbers_of(X)
        expected = [0] + numbers_of(answer) if isinstance(answer, tuple) else [answer]
        self.assertEqual(true_alone(op, X), expected)
        self.assertEqual(alone(op, X), expected)

    def test_negated(self):
        self.check(NEGATED, (1, 2), (-2, -1))
        self.check(NEGATED, (-2, -1), (1, 2))
        self.check(NEGATED, (-1, 2), (-2, 1))
        self.check(NEGATED, (0.0, 2), (-2, 0.0))
        self.check(NEGATED, (-GREATEST, GREATEST), (-GREATEST, GREATEST))
        self.check(NEGATED, (0.0, 0.0), (0.0, 0.0))

    def test_sizes(self):
        self.check(SIZE, (1, 2), (1, 2))
        self.check(SIZE, (-2, -1), (1, 2))
        self.check(SIZE, (-1, 2), (0.0, 2))
        self.check(SIZE, (-3, 2), (0.0, 3))
        self.check(SIZE, (-3, 0), (0.0, 3))
        self.check(SIZE, (-0.0, 3), (0.0, 3))
        self.check(SIZE, (-0.0, -0.0), (0.0, 0.0))
        self.check(SIZE, (-GREATEST, 2), (0.0, GREATEST))

    def test_squares(self):
        self.check(SQUARE, (1.5, 2), (2.25, 4))
        self.check(SQUARE, (-2, -1.5), (2.25, 4))
        self.check(SQUARE, (-1, 2), (0.0, 4))
        self.check(SQUARE, (-3, 2), (0.0, 9))
        self.check(SQUARE, (-3, 0), (0.0, 9))
        self.check(SQUARE, (LEAST, LEAST), (0.0, LEAST))
        self.check(SQUARE, (-LEAST, 1), (0.0, 1))
        self.check(SQUARE, (ABOVE_ONE, ABOVE_ONE), (1 + 2.0 ** -51, 1 + 3 * 2.0 ** -52))

    def test_roots(self):
        self.check(ROOT, (4, 9), (2, 3))
        self.check(ROOT, (0, 2.25), (0.0, 1.5))
        self.check(ROOT, (-0.0, -0.0), (0.0, 0.0))
        root = math.sqrt(2)
        self.check(ROOT, (2, 2), (math.nextafter(root, 0), root))
        self.check(ROOT, (LEAST, LEAST), (2.0 ** -537, 2.0 ** -537))
        self.check(ROOT, (BELOW_ONE, ABOVE_ONE), (BELOW_ONE, ABOVE_ONE))
        self.check(ROOT, (0, GREATEST), (0.0, math.nextafter(math.sqrt(GREATEST), math.inf)))

    def test_one_by(self):
        self.check(ONE_BY, (2, 4), (0.25, 0.5))
        self.check(ONE_BY, (-4, -2), (-0.5, -0.25))
        self.check(ONE_BY, (3, 3), (1 / 3, math.nextafter(1 / 3, 1)))
        self.check(ONE_BY, (-10, -10), (-0.1, -math.nextafter(0.1, 0)))
        self.check(ONE_BY, (1, GREATEST), (2.0 ** -1024, 1))

    def test_not_there(self):
        self.check(ROOT, (-LEAST, 1), -5)
        self.check(ROOT, (-2, -1), -5)
        self.check(ROOT, (-1, 0), -5)
        for X in ((-1, 1), (0, 1), (-1, 0), (-0.0, 1), (-1, -0.0), (0, 0), (-LEAST, LEAST)):
            self.check(ONE_BY, X, -5)

    def test_beyond_the_greatest_number_or_not(self):
        self.check(SQUARE, (1, GREATEST), -7)
        self.check(SQUARE, (-1e200, 1), -7)
        self.check(SQUARE, (0, 2.0 ** 512), -7)
        self.check(SQUARE, (0, 2.0 ** 511), (0.0, 2.0 ** 1022))
        self.check(ONE_BY, (LEAST, 1), -7)
        self.check(ONE_BY, (-1, -LEAST), -7)
        self.check(ONE_BY, (2.0 ** -1024, 1), -7)
        self.check(ONE_BY, (-1, -(2.0 ** -1024)), -7)
        above = 2.0 ** -1024 + LEAST
        self.check(ONE_BY, (above, 1), (1, math.nextafter(1 / above, math.inf)))

    def test_several(self):
        X = (1, 2, 4, 9, 0.25, 0.5)
        self.check(NEGATED, X, (-2, -1, -9, -4, -0.5, -0.25))
        self.check(SIZE, X, X)
        self.check(SQUARE, X, (1, 4, 16, 81, 0.0625, 0.25))
        self.check(ONE_BY, (1, 2, 4, 8), (0.5, 1, 0.125, 0.25))

    def test_not_there_comes_before_what_cannot_be_told(self):
        self.check(ONE_BY, (LEAST, 1, 0, 1), -5)
        self.check(ONE_BY, (0, 1, LEAST, 1), -5)
        self.check(ROOT, (4, 4, -1, 4), -5)

    def test_lengths_and_lists_that_end_in_part(self):
        for op in range(5):
            self.assertEqual(alone(op, []), [0])
            self.assertEqual(len(alone(op, [ONE] * 4096)), 4097)
            self.assertEqual(alone(op, [ONE] * 4098), [-8])
            for count in (1, 3, 4095, 4097):
                self.assertEqual(alone(op, [ONE] * count), [-8])

    def test_wrong_op(self):
        for op in (5, 6, 2 ** 64 - 1):
            self.assertEqual(alone(op, []), [-8])
            self.assertEqual(alone(op, [ONE] * 2), [-8])

    def test_wrong_comes_first(self):
        for op in range(5):
            for ends in ((-1, 0, 2, 1), (2, 1), (LEAST, 0), (-0.0, -LEAST)):
                self.assertEqual(alone(op, numbers_of(ends)), [-8])
            for wrong in NOT_FINITE:
                self.assertEqual(alone(op, numbers_of((-1, 0)) + [ONE, wrong]), [-8])
                self.assertEqual(alone(op, numbers_of((-1, 0)) + [wrong, ONE]), [-8])

    def test_against_fractions(self):
        source = random.Random(30)
        seen = set()
        for size in SIZES:
            for op in range(5):
                for _ in range(80):
                    X = [n for _ in range(source.randrange(1, 4)) for n in any_interval(source, size)]
                    if op == ROOT and source.randrange(4):
                        X = [n for i in range(0, len(X), 2) for n in sorted(m & ~(1 << 63) for m in X[i:i + 2])]
                    answer = true_alone(op, X)
                    seen.add(answer[0])
                    self.assertEqual(alone(op, X), answer, (op, X))
        self.assertEqual(seen, {0, -5, -7})
