"""Point 1: side."""

import random
import unittest

from exactplaces.exact import side
from helper import (ABOVE_ONE, BELOW_GREATEST, EXTREMES, GREATEST, LEAST, SMALL,
                    exact_point, point, random_points, sign)


def rounded_side(a, b, c):
    return sign((b[0] - a[0]) * (c[1] - a[1]) - (b[1] - a[1]) * (c[0] - a[0]))


def true_side(a, b, c):
    a, b, c = [exact_point(p) for p in (a, b, c)]
    return sign(a[0] * b[1] - a[1] * b[0] + b[0] * c[1] - b[1] * c[0] + c[0] * a[1] - c[1] * a[0])


class SideTest(unittest.TestCase):
    def check(self, a, b, c, answer):
        self.assertEqual(true_side(a, b, c), answer)
        self.assertEqual(side(point(*a), point(*b), point(*c)), [answer])
        self.assertEqual(side(point(*b), point(*a), point(*c)), [-answer])

    def check_where_rounding_fails(self, a, b, c, answer):
        self.assertNotEqual(rounded_side(a, b, c), answer)
        self.check(a, b, c, answer)

    def test_left_right_and_on_the_line(self):
        self.check((0, 0), (4, 0), (1, 2), 1)
        self.check((0, 0), (4, 0), (1, -2), -1)
        self.check((0, 0), (4, 2), (2, 1), 0)

    def test_on_the_line_beyond_the_ends(self):
        self.check((0, 0), (4, 2), (8, 4), 0)
        self.check((0, 0), (4, 2), (-2, -1), 0)

    def test_a_is_b(self):
        self.check((3, 5), (3, 5), (7, -2), 0)
        self.check((3, 5), (3, 5), (3, 5), 0)

    def test_c_is_an_end(self):
        self.check((3, 5), (8, 1), (3, 5), 0)
        self.check((3, 5), (8, 1), (8, 1), 0)

    def test_both_zeros_are_one_number(self):
        self.check((0.0, -0.0), (-0.0, 0.0), (7, -2), 0)
        self.check((-0.0, 1), (0.0, 2), (-0.0, 3), 0)

    def test_last_bit_alone(self):
        self.check_where_rounding_fails((0.5, 0.5 + 2.0 ** -53), (12, 12), (24, 24), 1)
        self.check((1, 1), (2, 2), (ABOVE_ONE, ABOVE_ONE), 0)
        self.check((1, 1), (2, 2), (1, ABOVE_ONE), 1)

    def test_least_numbers(self):
        self.check_where_rounding_fails((0, 0), (LEAST, LEAST), (0, LEAST), 1)
        self.check_where_rounding_fails((0, 0), (LEAST, LEAST), (LEAST, -LEAST), -1)
        self.check((0, 0), (LEAST, LEAST), (-LEAST, -LEAST), 0)

    def test_greatest_numbers(self):
        low, high = (-GREATEST, -GREATEST), (GREATEST, GREATEST)
        self.check_where_rounding_fails(low, high, (GREATEST, BELOW_GREATEST), -1)
        self.check_where_rounding_fails(low, high, (BELOW_GREATEST, GREATEST), 1)
        self.check(low, high, (0.1, 0.1), 0)

    def test_great_and_tiny_together(self):
        self.check_where_rounding_fails((0, LEAST), (GREATEST, GREATEST), (1, 1), -1)
        self.check_where_rounding_fails((LEAST, 0), (GREATEST, GREATEST), (1, 1), 1)

    def test_against_fractions(self):
        source = random.Random(1)
        for values in (SMALL, EXTREMES):
            for _ in range(1000):
                a, b, c = random_points(source, 3, 2, values)
                self.assertEqual(side(point(*a), point(*b), point(*c)), [true_side(a, b, c)], (a, b, c))
