"""Points 5 to 7: angle, nearer, longer."""

import random
import unittest

from exactplaces.exact import angle, longer, nearer
from helper import (ABOVE_ONE, BELOW_GREATEST, BELOW_ONE, EXTREMES, GREATEST, LEAST, SMALL,
                    exact_point, point, random_points, sign)


def product(a, b, c):
    return sum((y - x) * (z - x) for x, y, z in zip(a, b, c))


def square(a, b):
    return sum((y - x) * (y - x) for x, y in zip(a, b))


def exact(points):
    return [exact_point(p) for p in points]


class AngleTest(unittest.TestCase):
    def check(self, a, b, c, answer):
        a, b, c = point(*a), point(*b), point(*c)
        self.assertEqual(angle(len(a), a, b, c), [answer])
        self.assertEqual(angle(len(a), a, c, b), [answer])

    def check_where_rounding_fails(self, a, b, c, answer):
        floats = [[float(x) for x in p] for p in (a, b, c)]
        self.assertNotEqual(sign(product(*floats)), answer)
        self.check(a, b, c, answer)

    def test_sharp_square_and_blunt_in_the_plane(self):
        self.check((1, 1), (4, 1), (3, 2), 1)
        self.check((1, 1), (4, 1), (1, 7), 0)
        self.check((1, 1), (4, 1), (0, 2), -1)

    def test_sharp_square_and_blunt_in_space(self):
        self.check((1, 1, 1), (2, 3, 1), (3, 2, 9), 1)
        self.check((1, 1, 1), (2, 3, 2), (2, 1, 0), 0)
        self.check((1, 1, 1), (2, 3, 2), (2, 1, -1), -1)

    def test_same_points(self):
        self.check((1, 1), (1, 1), (4, 5), 0)
        self.check((1, 1), (4, 5), (4, 5), 1)
        self.check((1, 1, 1), (1, 1, 1), (1, 1, 1), 0)

    def test_both_zeros_are_one_number(self):
        self.check((0.0, -0.0), (5, -0.0), (-0.0, 5), 0)

    def test_last_bit_alone(self):
        self.check_where_rounding_fails((0, 0), (-ABOVE_ONE, 1), (BELOW_ONE, 1), -1)
        self.check_where_rounding_fails((0, 0), (ABOVE_ONE, -1), (BELOW_ONE, 1), 1)
        self.check_where_rounding_fails((0, 0, 0), (ABOVE_ONE, -1, 0), (ABOVE_ONE, 1 + 2.0 ** -51, 3), 1)

    def test_least_numbers(self):
        self.check_where_rounding_fails((0, 0), (LEAST, 0), (LEAST, LEAST), 1)
        self.check_where_rounding_fails((0, 0, 0), (LEAST, LEAST, 0), (-LEAST, 0, LEAST), -1)

    def test_greatest_numbers(self):
        self.check_where_rounding_fails((0, 0), (GREATEST, GREATEST), (GREATEST, -BELOW_GREATEST), 1)
        self.check_where_rounding_fails((0, 0), (GREATEST, GREATEST), (GREATEST, -GREATEST), 0)
        self.check_where_rounding_fails((0, 0), (GREATEST, GREATEST), (BELOW_GREATEST, -GREATEST), -1)

    def test_great_and_tiny_together(self):
        self.check_where_rounding_fails((0, 0, 0), (GREATEST, GREATEST, LEAST), (1, -1, LEAST), 1)
        self.check_where_rounding_fails((0, 0, 0), (GREATEST, GREATEST, LEAST), (1, -1, -LEAST), -1)

    def test_against_fractions(self):
        source = random.Random(5)
        for k in (2, 3):
            for values in (SMALL, EXTREMES):
                for _ in range(500):
                    three = random_points(source, 3, k, values)
                    answer = sign(product(*exact(three)))
                    self.assertEqual(angle(k, *[point(*p) for p in three]), [answer], three)


class NearerTest(unittest.TestCase):
    def check(self, p, a, b, answer):
        p, a, b = point(*p), point(*a), point(*b)
        self.assertEqual(nearer(len(p), p, a, b), [answer])
        self.assertEqual(nearer(len(p), p, b, a), [-answer])

    def check_where_rounding_fails(self, p, a, b, answer):
        p, a, b = [[float(x) for x in q] for q in (p, a, b)]
        self.assertNotEqual(sign(square(p, b) - square(p, a)), answer)
        self.check(p, a, b, answer)

    def test_nearer_as_near_and_not_so_near(self):
        self.check((1, 1), (2, 2), (1, 3), 1)
        self.check((1, 1), (4, 5), (-4, 1), 0)
        self.check((1, 1), (4, 5), (-3, 1), -1)

    def test_in_space(self):
        self.check((1, 1, 1), (2, 2, 2), (1, 1, 3), 1)
        self.check((1, 1, 1), (2, 3, 3), (1, 1, -2), 0)
        self.check((1, 1, 1), (2, 3, 3), (1, 1, -1), -1)

    def test_same_points(self):
        self.check((1, 1), (1, 1), (1, 1), 0)
        self.check((1, 1), (1, 1), (1, ABOVE_ONE), 1)

    def test_both_zeros_are_one_number(self):
        self.check((0.0, -0.0), (-0.0, 3), (3, 0.0), 0)
        self.check((0.0, 0.0, -0.0), (-0.0, -0.0, 0.0), (0.0, 0.0, -0.0), 0)

    def test_last_bit_alone(self):
        self.check((0, 0), (BELOW_ONE, 0), (0, 1), 1)
        self.check((0, 0), (0, 1), (ABOVE_ONE, 0), 1)
        self.check_where_rounding_fails((2.0 ** -60, 0), (1, 0), (-1, 0), 1)

    def test_least_numbers(self):
        self.check_where_rounding_fails((0, 0), (LEAST, 0), (LEAST, LEAST), 1)
        self.check_where_rounding_fails((0, 0), (LEAST, 0), (0, 0), -1)

    def test_greatest_numbers(self):
        self.check_where_rounding_fails((0, 0), (BELOW_GREATEST, 0), (0, GREATEST), 1)
        self.check_where_rounding_fails((-GREATEST, 0), (GREATEST, 0), (BELOW_GREATEST, 0), -1)

    def test_great_and_tiny_together(self):
        self.check_where_rounding_fails((0, 0), (GREATEST, 0), (GREATEST, LEAST), 1)
        self.check_where_rounding_fails((LEAST, 0, 0), (-GREATEST, 0, 0), (GREATEST, 0, 0), -1)

    def test_against_fractions(self):
        source = random.Random(6)
        for k in (2, 3):
            for values in (SMALL, EXTREMES):
                for _ in range(500):
                    three = random_points(source, 3, k, values)
                    p, a, b = exact(three)
                    answer = sign(square(p, b) - square(p, a))
                    self.assertEqual(nearer(k, *[point(*q) for q in three]), [answer], three)


class LongerTest(unittest.TestCase):
    def check(self, a, b, c, d, answer):
        a, b, c, d = point(*a), point(*b), point(*c), point(*d)
        self.assertEqual(longer(len(a), a, b, c, d), [answer])
        self.assertEqual(longer(len(a), b, a, d, c), [answer])
        self.assertEqual(longer(len(a), c, d, a, b), [-answer])

    def check_where_rounding_fails(self, a, b, c, d, answer):
        a, b, c, d = [[float(x) for x in p] for p in (a, b, c, d)]
        self.assertNotEqual(sign(square(a, b) - square(c, d)), answer)
        self.check(a, b, c, d, answer)

    def test_further_as_far_and_not_so_far(self):
        self.check((0, 0), (3, 4), (9, 9), (5, 7), 1)
        self.check((0, 0), (3, 4), (9, 9), (9, 4), 0)
        self.check((0, 0), (3, 4), (9, 9), (5, 5), -1)

    def test_in_space(self):
        self.check((0, 0, 0), (1, 2, 2), (5, 5, 5), (4, 4, 4), 1)
        self.check((0, 0, 0), (1, 2, 2), (5, 5, 5), (5, 5, 2), 0)
        self.check((0, 0, 0), (1, 2, 2), (5, 5, 5), (5, 5, 1), -1)

    def test_same_points(self):
        self.check((1, 2), (1, 2), (7, 8), (7, 8), 0)
        self.check((1, 2), (1, ABOVE_ONE), (7, 8), (7, 8), 1)

    def test_both_zeros_are_one_number(self):
        self.check((0.0, -0.0), (-0.0, 0.0), (1, 1), (1, 1), 0)

    def test_last_bit_alone(self):
        self.check((0, 0), (0, ABOVE_ONE), (0, 0), (1, 0), 1)
        self.check_where_rounding_fails((2.0 ** -60, 0), (1, 0), (0, 0), (1, 0), -1)
        self.check_where_rounding_fails((0, 0, 0), (1, 0, 2.0 ** -40), (0, 0, 0), (1, 0, 0), 1)

    def test_least_numbers(self):
        self.check_where_rounding_fails((0, 0), (LEAST, 0), (0, 0), (0, 0), 1)
        self.check_where_rounding_fails((0, 0, 0), (LEAST, 0, 0), (0, 0, 0), (0, LEAST, LEAST), -1)

    def test_greatest_numbers(self):
        self.check_where_rounding_fails((0, 0), (GREATEST, 0), (0, 0), (0, BELOW_GREATEST), 1)
        self.check_where_rounding_fails((-GREATEST, 0), (GREATEST, 0), (0, -GREATEST), (0, GREATEST), 0)

    def test_great_and_tiny_together(self):
        self.check_where_rounding_fails((0, 0), (GREATEST, LEAST), (0, 0), (GREATEST, 0), 1)
        self.check_where_rounding_fails((LEAST, 0), (GREATEST, 0), (0, 0), (GREATEST, 0), -1)

    def test_against_fractions(self):
        source = random.Random(7)
        for k in (2, 3):
            for values in (SMALL, EXTREMES):
                for _ in range(500):
                    four = random_points(source, 4, k, values)
                    a, b, c, d = exact(four)
                    answer = sign(square(a, b) - square(c, d))
                    self.assertEqual(longer(k, *[point(*p) for p in four]), [answer], four)
