"""Point 35: newton."""

import math
import random
import unittest
from fractions import Fraction

from exactplaces.exact import newton
from helper import ABOVE_ONE, BELOW_ONE, GREATEST, LEAST, NOT_FINITE, SIZES, any_interval, bits, near_number
from truth import intervals_of, numbers_of, rounded_down, rounded_up, told, value_of, values_of, weighed_ends

ONE = bits(1.0)


class NotTold(Exception):
    pass


def narrowest(low, high):
    ends = [rounded_down(low), rounded_up(high)]
    if None in ends:
        raise NotTold
    return [value_of(end) for end in ends]


def true_steps(n, X, f, J, M):
    X, f, J, M = intervals_of(X), intervals_of(f), intervals_of(J), values_of(M)
    middles = [value_of(told((low + high) / Fraction(2))) for low, high in X]
    reaches = [narrowest(low - m, high - m) for (low, high), m in zip(X, middles)]
    found = []
    for i in range(n):
        row = [(M[i * n + k], M[i * n + k]) for k in range(n)]
        remainders = []
        for j in range(n):
            low, high = weighed_ends(row, [J[k * n + j] for k in range(n)])
            remainders.append(narrowest((i == j) - high, (i == j) - low))
        shift, spread = weighed_ends(row, f), weighed_ends(remainders, reaches)
        found.append(narrowest(middles[i] - shift[1] + spread[0], middles[i] - shift[0] + spread[1]))
    return X, found


def true_newton(n, X, f, J, M):
    try:
        X, found = true_steps(n, X, f, J, M)
    except NotTold:
        return [-7]
    if any(max(low, x[0]) > min(high, x[1]) for (low, high), x in zip(found, X)):
        verdict = -1
    else:
        verdict = int(all(x[0] < low and high < x[1] for (low, high), x in zip(found, X)))
    return [0, verdict] + [told(end) for pair in found for end in pair]


# f = x x + y y - 4, x - y around (1.4, 1.4): a system of two, by its parts.
BOX = (1.25, 1.5, 1.25, 1.5)
VALUES = (2 * 1.375 ** 2 - 4,) * 2 + (0, 0)
SLOPES = (2.5, 3, 2.5, 3, 1, 1, -1, -1)
INVERSE = (0.1875, 0.5, 0.1875, -0.5)


class NewtonTest(unittest.TestCase):
    def check(self, n, X, f, J, M, answer):
        handed = [n] + [numbers_of(values) for values in (X, f, J, M)]
        expected = [0, answer[0]] + numbers_of(answer[1]) if isinstance(answer, tuple) else [answer]
        self.assertEqual(true_newton(*handed), expected)
        self.assertEqual(newton(*handed), expected)

    def test_one_place_within(self):
        # x x - 2 in [1, 2].
        self.check(1, (1, 2), (0.25, 0.25), (2, 4), (0.375,), (1, (1.15625, 1.65625)))
        # x - 1 in [-4, 8]: m is 2, f there 1.
        self.check(1, (-4, 8), (1, 1), (1, 1), (1,), (1, (1, 1)))

    def test_no_place_within(self):
        # x x - 2 in [3, 4].
        self.check(1, (3, 4), (10.25, 10.25), (6, 8), (0.125,), (-1, (2.09375, 2.34375)))
        self.check(1, (-4, -3), (10.25, 10.25), (-8, -6), (-0.125,), (-1, (-2.34375, -2.09375)))

    def test_not_to_be_told_apart(self):
        self.check(1, (1, 2), (0.25, 0.25), (2, 4), (0,), (0, (1, 2)))
        self.check(1, (1, 3), (0, 0), (0, 0), (1,), (0, (1, 3)))
        self.check(1, (0, 8), (0, 0), (0, 1), (2,), (0, (0.0, 8)))
        self.check(1, (0, 8), (0, 0), (0, 1), (3,), (0, (-4, 12)))

    def test_touching_an_end(self):
        # K is a point or a stretch beside X's ends.
        self.check(1, (0, 4), (-2, -2), (1, 1), (1,), (0, (4, 4)))
        self.check(1, (0, 4), (2, 2), (1, 1), (1,), (0, (0.0, 0.0)))
        self.check(1, (0, 4), (-2, 0), (1, 1), (1,), (0, (2, 4)))
        self.check(1, (0, 4), (0, 2), (1, 1), (1,), (0, (0.0, 2)))
        self.check(1, (0, 4), (-3, -2), (1, 1), (1,), (0, (4, 5)))
        self.check(1, (0, 4), (-3, -2.5), (1, 1), (1,), (-1, (4.5, 5)))
        self.check(1, (0, 4), (2.5, 3), (1, 1), (1,), (-1, (-1, -0.5)))
        self.check(1, (0, 4), (-1.5, 1.5), (1, 1), (1,), (1, (0.5, 3.5)))

    def test_an_x_that_is_a_point(self):
        self.check(1, (3, 3), (0, 0), (1, 1), (1,), (0, (3, 3)))
        self.check(1, (3, 3), (1, 1), (1, 1), (1,), (-1, (2, 2)))

    def test_two(self):
        self.check(2, BOX, VALUES, SLOPES, INVERSE, (1, (1.400390625, 1.431640625) * 2))
        far = (2.25, 2.5, 2.25, 2.5)
        self.check(2, far, (7.28125, 7.28125, 0, 0), (4.5, 5, 4.5, 5, 1, 1, -1, -1), (0.125, 0.5, 0.125, -0.5),
                   (-1, (1.43359375, 1.49609375) * 2))
        self.check(2, BOX, VALUES, SLOPES, (0, 0, 0, 0), (0, BOX))

    def test_two_of_which_one_alone_lies_within(self):
        self.check(2, (0, 4, 0, 4), (0, 0, -2, -2), (1, 1, 0, 0, 0, 0, 1, 1), (1, 0, 0, 1), (0, (2, 2, 4, 4)))
        self.check(2, (0, 4, 0, 4), (-2, -2, 0, 0), (1, 1, 0, 0, 0, 0, 1, 1), (1, 0, 0, 1), (0, (4, 4, 2, 2)))
        self.check(2, (0, 4, 0, 4), (0, 0, -9, -9), (1, 1, 0, 0, 0, 0, 1, 1), (1, 0, 0, 1), (-1, (2, 2, 11, 11)))
        self.check(2, (0, 4, 0, 4), (-9, -9, -2, -2), (1, 1, 0, 0, 0, 0, 1, 1), (1, 0, 0, 1), (-1, (11, 11, 4, 4)))

    def test_rows_and_columns_are_not_mixed_up(self):
        # M times J is 1 only if M's rows meet J's columns.
        J = (1, 1, 2, 2, 0, 0, 1, 1)
        M = (1, -2, 0, 1)
        self.check(2, (-8, 8, -8, 8), (3, 3, 1, 1), J, M, (1, (-1, -1, -1, -1)))
        self.check(2, (-8, 8, -8, 8), (3, 3, 1, 1), J, (1, 0, -2, 1), (0, (-19, 13, -43, 53)))

    def test_eight(self):
        n = 8
        X = [v for i in range(n) for v in (i, i + 2)]
        unit = [1 if i == j else 0 for i in range(n) for j in range(n)]
        J = [v for x in unit for v in (x, x)]
        f = [0.5] * 16
        self.check(n, X, f, J, unit, (1, tuple(v for i in range(n) for v in (i + 0.5, i + 0.5))))
        self.check(n, X, f, J, [0] * 64, (0, tuple(X)))
        self.check(n, X, f[:14] + [3, 4], J, unit,
                   (-1, tuple(v for i in range(7) for v in (i + 0.5, i + 0.5)) + (4, 5)))

    def test_rounded_once(self):
        self.check(1, (1, 1), (LEAST, LEAST), (1, 1), (1,), (0, (BELOW_ONE, 1)))
        self.check(1, (-1, 1), (1e200, 1e200), (0, 0), (0,), (0, (-1, 1)))
        n2 = (2, (-1, 1, -1, 1), (1e200, 1e200, 1e200, 1e200), (1, 1, 0, 0, 0, 0, 1, 1), (1, -1, 0, 1))
        self.check(*n2, (-1, (-1, 1, -1e200, -1e200)))

    def test_c_and_x_less_m_are_rounded_by_themselves(self):
        # C is 1 less LEAST, so from the number below 1 to 1; or 1 and LEAST, so from 1 to the number above it.
        self.check(1, (0, 4), (0, 0), (LEAST, LEAST), (1,), (0, (0.0, 4)))
        self.check(1, (0, 4), (0, 0), (-LEAST, -LEAST), (1,), (0, (-2.0 ** -51, math.nextafter(4, 5))))
        # m is 0.5; -LEAST less it goes down to the number below -0.5.
        self.check(1, (-LEAST, 1), (0, 0), (0, 0), (0,), (0, (-2.0 ** -53, 1)))

    def test_zero_is_plus_0(self):
        self.check(1, (-1, 1), (0, 0), (1, 1), (1,), (1, (0.0, 0.0)))
        self.check(1, (-1, 1), (-0.0, 0), (1, 1), (1,), (1, (0.0, 0.0)))
        self.check(1, (-LEAST, LEAST), (0, 0), (1, 1), (1,), (1, (0.0, 0.0)))

    def test_beyond_the_greatest_number_or_not(self):
        # K's ends.
        self.check(1, (0, 0), (1, 1), (0, 0), (GREATEST,), (-1, (-GREATEST, -GREATEST)))
        self.check(1, (0, 0), (1, ABOVE_ONE), (0, 0), (GREATEST,), -7)
        self.check(1, (0, 0), (-1, -1), (0, 0), (GREATEST,), (-1, (GREATEST, GREATEST)))
        self.check(1, (0, 0), (-ABOVE_ONE, -1), (0, 0), (GREATEST,), -7)
        self.check(1, (-1, 1), (1, 1), (0, 0), (GREATEST,), -7)
        # C's ends, though f and X less m are 0.
        self.check(1, (0, 0), (0, 0), (-1, -1), (GREATEST,), -7)
        self.check(1, (0, 0), (0, 0), (-1, -1), (GREATEST - 2.0 ** 971,), (0, (0.0, 0.0)))
        self.check(1, (0, 0), (0, 0), (1, 1), (GREATEST,), (0, (0.0, 0.0)))
        self.check(1, (0, 0), (0, 0), (1, ABOVE_ONE), (GREATEST,), -7)
        self.check(1, (-GREATEST, GREATEST), (0, 0), (0, 0), (0,), (0, (-GREATEST, GREATEST)))
        self.check(1, (-GREATEST, GREATEST), (0, 0), (1, 1), (2,), (0, (-GREATEST, GREATEST)))
        self.check(1, (-GREATEST, GREATEST), (0, 0), (1, 1), (3,), -7)

    def test_one_of_two_that_cannot_be_told(self):
        unit = (1, 1, 0, 0, 0, 0, 1, 1)
        self.check(2, (0, 0, 0, 0), (1, 1, 2, 2), unit, (0, 0, 0, GREATEST), -7)
        self.check(2, (0, 0, 0, 0), (2, 2, 1, 1), unit, (GREATEST, 0, 0, 0), -7)
        self.check(2, (0, 0, 0, 0), (1, 1, 1, 1), unit, (0, 0, 0, GREATEST), (-1, (0.0, 0.0, -GREATEST, -GREATEST)))

    def test_counts(self):
        for n in (0, 9, 10, 2 ** 64 - 1):
            self.assertEqual(newton(n, [], [], [], []), [-8])
            self.assertEqual(newton(n, [ONE] * 2, [ONE] * 2, [ONE] * 2, [ONE]), [-8])
            self.assertEqual(newton(n, [ONE] * 16, [ONE] * 16, [ONE] * 128, [ONE] * 64), [-8])
        self.assertEqual(newton(9, [ONE] * 18, [ONE] * 18, [ONE] * 162, [ONE] * 81), [-8])
        for n in (1, 2, 8):
            counts = [2 * n, 2 * n, 2 * n * n, n * n]
            self.assertNotEqual(newton(n, *[[ONE] * count for count in counts]), [-8])
            for at in range(4):
                for change in (-2, -1, 1, 2):
                    wrong = [[ONE] * max(count + change * (at == i), 0) for i, count in enumerate(counts)]
                    self.assertEqual(newton(n, *wrong), [-8], (n, at, change))

    def test_wrong_comes_first(self):
        great = numbers_of((GREATEST, GREATEST))
        for wrong in (numbers_of((2, 1)), numbers_of((LEAST, 0)), [ONE, NOT_FINITE[0]], [NOT_FINITE[3], ONE]):
            self.assertEqual(newton(1, wrong, great, great, great[:1]), [-8])
            self.assertEqual(newton(1, great, wrong, great, great[:1]), [-8])
            self.assertEqual(newton(1, great, great, wrong, great[:1]), [-8])
        for wrong in NOT_FINITE:
            self.assertEqual(newton(1, great, great, great, [wrong]), [-8])
        self.assertEqual(newton(1, great, great, great, great[:1]), [-7])

    def test_against_fractions(self):
        source = random.Random(35)
        seen = set()
        for size in SIZES + (lambda s: near_number(s, 2),):
            for n in (1, 1, 2, 3, 4):
                for _ in range(40):
                    X, f, J = [[v for _ in range(count) for v in any_interval(source, size)] for count in (n, n, n * n)]
                    M = [size(source) for _ in range(n * n)]
                    answer = true_newton(n, X, f, J, M)
                    seen.add(tuple(answer[:2]) if answer[0] == 0 else answer[0])
                    self.assertEqual(newton(n, X, f, J, M), answer, (n, X, f, J, M))
        self.assertLessEqual({(0, -1), (0, 0), -7}, seen)

    def test_near_to_the_inverse_against_fractions(self):
        source = random.Random(45)
        seen = set()
        for n in (1, 2, 8):
            for _ in range(40):
                small = lambda: source.randrange(-99, 100) / 1000
                X = [v for _ in range(n) for v in (-1 + small(), 1 + small())]
                shifts = [small() * source.choice((1, 1, 1, 30)) for _ in range(n)]
                f = [v for x in shifts for v in (x, x + abs(small()))]
                unit = [1.0 if i == j else 0.0 for i in range(n) for j in range(n)]
                J = [v for x in unit for v in sorted((x + small() / n, x + small() / n))]
                M = [x + small() / n for x in unit]
                handed = [n] + [numbers_of(values) for values in (X, f, J, M)]
                answer = true_newton(*handed)
                seen.add(answer[1])
                self.assertEqual(newton(*handed), answer, handed)
        self.assertEqual(seen, {-1, 0, 1})
