"""Point 3: above."""

import itertools
import random
import unittest

from exactplaces.exact import above
from helper import (ABOVE_ONE, BELOW_ONE, EXTREMES, GREATEST, LEAST, SMALL,
                    exact_point, point, random_points, sign)


def volume(a, b, c, d):
    u, v, w = [[x - y for x, y in zip(p, a)] for p in (b, c, d)]
    return ((u[1] * v[2] - u[2] * v[1]) * w[0] + (u[2] * v[0] - u[0] * v[2]) * w[1]
            + (u[0] * v[1] - u[1] * v[0]) * w[2])


def true_above(a, b, c, d):
    return sign(volume(*[exact_point(p) for p in (a, b, c, d)]))


class AboveTest(unittest.TestCase):
    def check(self, a, b, c, d, answer):
        self.assertEqual(true_above(a, b, c, d), answer)
        a, b, c, d = [point(*p) for p in (a, b, c, d)]
        for three in ((a, b, c), (b, c, a), (c, a, b)):
            self.assertEqual(above(*three, d), [answer])
        for three in ((b, a, c), (a, c, b), (c, b, a)):
            self.assertEqual(above(*three, d), [-answer])

    def check_where_rounding_fails(self, a, b, c, d, answer):
        floats = [[float(x) for x in p] for p in (a, b, c, d)]
        self.assertNotEqual(sign(volume(*floats)), answer)
        self.check(a, b, c, d, answer)

    def test_either_side_and_in_the_plane(self):
        three = ((0, 0, 0), (1, 0, 0), (0, 1, 0))
        self.check(*three, (5, 7, 1), 1)
        self.check(*three, (5, 7, -1), -1)
        self.check(*three, (5, 7, 0), 0)

    def test_each_axis(self):
        self.check((0, 0, 0), (0, 1, 0), (0, 0, 1), (2, 3, 4), 1)
        self.check((0, 0, 0), (0, 0, 1), (1, 0, 0), (3, 2, 4), 1)
        self.check((0, 0, 0), (0, 1, 0), (1, 0, 0), (3, 2, 4), -1)

    def test_slanting_plane(self):
        three = ((3, 0, 0), (0, 3, 0), (0, 0, 3))
        self.check(*three, (1, 1, 1), 0)
        self.check(*three, (1, 1, 2), 1)
        self.check(*three, (0, 0, 0), -1)

    def test_three_on_one_line(self):
        self.check((0, 0, 0), (1, 2, 3), (2, 4, 6), (5, -7, 1), 0)

    def test_same_points(self):
        self.check((1, 2, 3), (1, 2, 3), (2, 0, 6), (5, -7, 1), 0)
        self.check((1, 2, 3), (1, 2, 3), (1, 2, 3), (5, -7, 1), 0)
        self.check((1, 2, 3), (4, 5, 7), (2, 0, 6), (4, 5, 7), 0)

    def test_both_zeros_are_one_number(self):
        self.check((0.0, -0.0, 0.0), (1, -0.0, -0.0), (-0.0, 1, 0.0), (5, 7, -0.0), 0)

    def test_last_bit_alone(self):
        three = ((1, 0, 0), (0, 1, 0), (0, 0, 1))
        self.check(*three, (0, 0, ABOVE_ONE), 1)
        self.check(*three, (0, 0, BELOW_ONE), -1)
        three = ((3, 0, 0), (0, 3, 0), (0, 0, 3))
        self.check_where_rounding_fails(*three, (LEAST, 1, 2), 1)
        self.check_where_rounding_fails(*three, (-LEAST, 1, 2), -1)

    def test_least_numbers(self):
        three = ((0, 0, 0), (LEAST, 0, 0), (0, LEAST, 0))
        self.check_where_rounding_fails(*three, (0, 0, LEAST), 1)
        self.check_where_rounding_fails(*three, (0, 0, -LEAST), -1)
        self.check(*three, (LEAST, LEAST, 0), 0)

    def test_greatest_numbers(self):
        three = ((GREATEST, 0, 0), (0, GREATEST, 0), (0, 0, GREATEST))
        self.check_where_rounding_fails(*three, (GREATEST, LEAST, 0), 1)
        self.check_where_rounding_fails(*three, (GREATEST, -LEAST, 0), -1)
        self.check_where_rounding_fails(*three, (GREATEST, -GREATEST, GREATEST), 0)

    def test_great_and_tiny_together(self):
        three = ((0, 0, 0), (GREATEST, 0, 0), (0, LEAST, 0))
        self.check_where_rounding_fails(*three, (1, 1, LEAST), 1)
        self.check_where_rounding_fails(*three, (-1, 1, -LEAST), -1)

    def test_against_fractions(self):
        source = random.Random(3)
        for values in (SMALL, EXTREMES):
            for _ in range(1000):
                four = random_points(source, 4, 3, values)
                self.assertEqual(above(*[point(*p) for p in four]), [true_above(*four)], four)

    def test_every_order_of_four(self):
        four = ((0, 0, 0), (1, 0, 0), (0, 1, 0), (0, 0, 1))
        for order in itertools.permutations(four):
            self.assertEqual(above(*[point(*p) for p in order]), [true_above(*order)])
