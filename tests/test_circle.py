"""Point 2: circle."""

import itertools
import random
import unittest
from fractions import Fraction

from exactplaces.exact import circle
from helper import (ABOVE_ONE, BELOW_ONE, EXTREMES, GREATEST, LEAST, SMALL,
                    exact_point, point, random_points, sign)


# By the centre itself, not by the program's determinant.
def true_circle(a, b, c, d):
    a, b, c, d = [exact_point(p) for p in (a, b, c, d)]
    ux, uy, vx, vy = b[0] - a[0], b[1] - a[1], c[0] - a[0], c[1] - a[1]
    twice = 2 * (ux * vy - uy * vx)
    if twice == 0:
        return -5
    uu, vv = ux * ux + uy * uy, vx * vx + vy * vy
    x, y = Fraction(uu * vy - vv * uy) / twice, Fraction(vv * ux - uu * vx) / twice
    px, py = d[0] - a[0] - x, d[1] - a[1] - y
    return sign(x * x + y * y - px * px - py * py)


class CircleTest(unittest.TestCase):
    def check(self, a, b, c, d, answer):
        self.assertEqual(true_circle(a, b, c, d), answer)
        for one, two, three in itertools.permutations((a, b, c)):
            self.assertEqual(circle(point(*one), point(*two), point(*three), point(*d)), [answer])

    def test_inside_on_and_outside(self):
        self.check((5, 0), (0, 5), (-5, 0), (1, 1), 1)
        self.check((5, 0), (0, 5), (-5, 0), (3, -4), 0)
        self.check((5, 0), (0, 5), (-5, 0), (4, 4), -1)

    def test_d_is_one_of_the_three(self):
        for d in ((5, 0), (0, 5), (-3, 4)):
            self.check((5, 0), (0, 5), (-3, 4), d, 0)

    def test_three_on_one_line(self):
        self.check((0, 0), (1, 1), (3, 3), (0, 1), -5)
        self.check((0, 0), (1, 1), (3, 3), (2, 2), -5)

    def test_two_or_three_the_same(self):
        self.check((2, 1), (2, 1), (4, 7), (0, 1), -5)
        self.check((2, 1), (2, 1), (2, 1), (2, 1), -5)
        self.check((0.0, -0.0), (-0.0, 0.0), (4, 7), (0, 1), -5)

    def test_both_zeros_are_one_number(self):
        self.check((5, -0.0), (-0.0, 5), (-5, 0.0), (0.0, -5), 0)
        self.check((5, 0.0), (0.0, 5), (-5, -0.0), (-0.0, -0.0), 1)

    def test_last_bit_alone(self):
        three = ((1, 0), (0, 1), (-1, 0))
        self.check(*three, (0, -BELOW_ONE), 1)
        self.check(*three, (0, -1), 0)
        self.check(*three, (0, -ABOVE_ONE), -1)

    def test_nearly_on_one_line(self):
        self.check((0, 0), (1, 1), (2, 2 + 2.0 ** -51), (1, 1.5), 1)
        self.check((0, 0), (1, 1), (2, 2 + 2.0 ** -51), (1, 0.5), -1)

    def test_least_numbers(self):
        three = ((LEAST, 0), (0, LEAST), (-LEAST, 0))
        self.check(*three, (0, 0), 1)
        self.check(*three, (0, -LEAST), 0)
        self.check(*three, (LEAST, LEAST), -1)

    def test_greatest_numbers(self):
        three = ((GREATEST, 0), (0, GREATEST), (-GREATEST, 0))
        self.check(*three, (1, 1), 1)
        self.check(*three, (0, -GREATEST), 0)
        self.check(*three, (GREATEST, LEAST), -1)

    def test_great_and_tiny_together(self):
        three = ((0, 0), (GREATEST, 0), (0, LEAST))
        self.check(*three, (GREATEST, LEAST), 0)
        self.check(*three, (LEAST, 2 * LEAST), 1)
        self.check(*three, (0, 2 * LEAST), -1)
        self.check(*three, (-LEAST, LEAST), -1)

    def test_against_fractions(self):
        source = random.Random(2)
        seen = set()
        for values in (SMALL, EXTREMES):
            for _ in range(1000):
                four = random_points(source, 4, 2, values)
                answer = true_circle(*four)
                seen.add(answer)
                self.assertEqual(circle(*[point(*p) for p in four]), [answer], four)
        self.assertEqual(seen, {-5, -1, 0, 1})
