"""Point 19: apart."""

import math
import random
import unittest

from exactplaces.exact import apart
from helper import ABOVE_ONE, EXTREMES, GREATEST, LEAST, SMALL, any_number, bits, near_number, point
from truth import answer_of, inner, root_of, values_of, way


def true_apart(a, b):
    between = way(values_of(a), values_of(b))
    return answer_of([root_of(inner(between, between))])


class ApartTest(unittest.TestCase):
    def check(self, a, b, answer):
        k, a, b = len(a), point(*a), point(*b)
        expected = [-7] if answer is None else [0, bits(answer)]
        self.assertEqual(true_apart(a, b), expected)
        self.assertEqual(apart(k, a, b), expected)
        self.assertEqual(apart(k, b, a), expected)

    def test_in_the_plane(self):
        self.check((1, 1), (4, 5), 5.0)
        self.check((-1, 2), (-1, -5), 7.0)
        self.check((0, 0), (1, 1), math.sqrt(2))
        self.check((0.1, 0.1), (0.2, 0.2), 0.1414213562373095)

    def test_in_space(self):
        self.check((1, 1, 1), (2, 3, 3), 3.0)
        self.check((0, 0, 0), (3, 4, 12), 13.0)
        self.check((0, 0, 0), (1, 1, 1), math.sqrt(3))
        self.check((5, 5, -5), (5, 5, 5), 10.0)

    def test_the_same_point(self):
        self.check((1, 2), (1, 2), 0.0)
        self.check((1, 2, -3), (1, 2, -3), 0.0)
        self.check((0.0, -0.0), (-0.0, 0.0), 0.0)

    def test_halves(self):
        self.check((0, 0), (2.0 ** 53, -1), 2.0 ** 53)
        self.check((-1, 0), (2.0 ** 53, 0), 2.0 ** 53)
        self.check((-3, 0, 0), (2.0 ** 53, 0, 0), 2.0 ** 53 + 4)
        self.check((-1, 0), (2.0 ** 53, LEAST), 2.0 ** 53 + 2)
        self.check((2.0 ** 53, 2.0 ** 27, 1), (0, 0, 0), 2.0 ** 53)

    def test_great_and_tiny_together(self):
        self.check((1, 0), (ABOVE_ONE, 0), 2.0 ** -52)
        self.check((1e300, 1e300), (1e300, 1e300 + 2.0 ** 970), 2.0 ** 970)
        self.check((GREATEST, LEAST, 1), (GREATEST, 0, 1), LEAST)
        self.check((1, LEAST), (0, 0), 1.0)

    def test_least_numbers(self):
        self.check((LEAST, 0), (0, 0), LEAST)
        self.check((LEAST, 0), (0, LEAST), LEAST)
        self.check((LEAST, 0), (-LEAST, 0), 2 * LEAST)
        self.check((LEAST, LEAST, LEAST), (0, 0, 0), 2 * LEAST)

    def test_beyond_the_greatest_number_or_not(self):
        self.check((GREATEST, 0), (0, 0), GREATEST)
        self.check((GREATEST, 0), (0, 2.0 ** 997), GREATEST)
        self.check((GREATEST, 0), (0, 2.0 ** 998), None)
        self.check((GREATEST, 0), (-2.0 ** 970, 0), None)
        self.check((GREATEST, 0), (-(2.0 ** 970) + 2.0 ** 917, 0), GREATEST)
        self.check((GREATEST, GREATEST, GREATEST), (-GREATEST, -GREATEST, -GREATEST), None)

    def test_wrong_points_and_wrong_k(self):
        for k in (0, 1, 4, 5, 2 ** 64 - 1):
            for of in range(5):
                self.assertEqual(apart(k, [0] * of, [0] * of), [-8])
        for k in (2, 3):
            for of in range(5):
                if of != k:
                    self.assertEqual(apart(k, [0] * of, [0] * k), [-8])
                    self.assertEqual(apart(k, [0] * k, [0] * of), [-8])
                    self.assertEqual(apart(k, [0] * of, [0] * of), [-8])
            self.assertEqual(apart(k, [0] * k, [0] * k), [0, 0])

    def test_against_fractions(self):
        source = random.Random(19)
        for number in (near_number, any_number, lambda s: bits(s.choice(EXTREMES)), lambda s: bits(s.choice(SMALL))):
            for k in (2, 3):
                for _ in range(100):
                    a, b = [[number(source) for _ in range(k)] for _ in range(2)]
                    self.assertEqual(apart(k, a, b), true_apart(a, b), (a, b))
