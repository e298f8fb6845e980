"""Point 4: sphere."""

import itertools
import random
import unittest

from exactplaces.exact import sphere
from helper import (ABOVE_ONE, BELOW_ONE, EXTREMES, GREATEST, LEAST, SMALL,
                    exact_point, point, random_points, sign)
from truth import solved


def squared(way):
    return sum(x * x for x in way)


# By the centre itself, not by the program's determinant.
def true_sphere(a, b, c, d, e):
    a, b, c, d, e = [exact_point(p) for p in (a, b, c, d, e)]
    ways = [[x - y for x, y in zip(p, a)] for p in (b, c, d)]
    centre = solved([[2 * x for x in way] + [squared(way)] for way in ways])
    if centre is None:
        return -5
    return sign(squared(centre) - squared([x - y - z for x, y, z in zip(e, a, centre)]))


class SphereTest(unittest.TestCase):
    def check(self, a, b, c, d, e, answer):
        self.assertEqual(true_sphere(a, b, c, d, e), answer)
        for four in itertools.permutations((a, b, c, d)):
            self.assertEqual(sphere(*[point(*p) for p in four], point(*e)), [answer])

    def test_inside_on_and_outside(self):
        four = ((3, 0, 0), (0, 3, 0), (0, 0, 3), (-3, 0, 0))
        self.check(*four, (1, 1, 1), 1)
        self.check(*four, (1, 2, -2), 0)
        self.check(*four, (2, 2, 2), -1)

    def test_e_is_one_of_the_four(self):
        four = ((3, 0, 0), (0, 3, 0), (0, 0, 3), (2, 1, -2))
        for e in four:
            self.check(*four, e, 0)

    def test_four_in_one_plane(self):
        self.check((0, 0, 1), (1, 0, 1), (0, 1, 1), (5, 7, 1), (0, 0, 0), -5)
        self.check((3, 0, 0), (0, 3, 0), (0, 0, 3), (1, 1, 1), (1, 1, 1), -5)

    def test_four_on_one_circle(self):
        self.check((1, 0, 0), (0, 1, 0), (-1, 0, 0), (0, -1, 0), (0, 0, 0), -5)

    def test_on_one_line_or_the_same(self):
        self.check((0, 0, 0), (1, 2, 3), (2, 4, 6), (5, 0, 1), (0, 0, 1), -5)
        self.check((1, 2, 3), (1, 2, 3), (2, 0, 6), (5, 0, 1), (0, 0, 1), -5)
        self.check((0.0, 2, 3), (-0.0, 2, 3), (2, 0, 6), (5, 0, 1), (0, 0, 1), -5)

    def test_both_zeros_are_one_number(self):
        four = ((3, -0.0, 0.0), (0.0, 3, -0.0), (-0.0, -0.0, 3), (-3, 0.0, -0.0))
        self.check(*four, (-0.0, -3, 0.0), 0)
        self.check(*four, (-0.0, -0.0, -0.0), 1)

    def test_last_bit_alone(self):
        four = ((1, 0, 0), (0, 1, 0), (0, 0, 1), (-1, 0, 0))
        self.check(*four, (0, 0, -BELOW_ONE), 1)
        self.check(*four, (0, 0, -1), 0)
        self.check(*four, (0, 0, -ABOVE_ONE), -1)

    def test_nearly_in_one_plane(self):
        four = ((3, 0, 0), (0, 3, 0), (0, 0, 3), (1, 2, LEAST))
        self.check(*four, (1, 1, 0), 1)
        self.check(*four, (1, 1, 2), -1)
        self.check((3, 0, 0), (0, 3, 0), (0, 0, 3), (1, 2, 0), (1, 1, 0), -5)

    def test_least_numbers(self):
        four = ((LEAST, 0, 0), (0, LEAST, 0), (0, 0, LEAST), (-LEAST, 0, 0))
        self.check(*four, (0, 0, 0), 1)
        self.check(*four, (0, -LEAST, 0), 0)
        self.check(*four, (LEAST, LEAST, 0), -1)

    def test_greatest_numbers(self):
        four = ((GREATEST, 0, 0), (0, GREATEST, 0), (0, 0, GREATEST), (-GREATEST, 0, 0))
        self.check(*four, (1, 1, 1), 1)
        self.check(*four, (0, -GREATEST, 0), 0)
        self.check(*four, (GREATEST, LEAST, 0), -1)

    def test_great_and_tiny_together(self):
        four = ((0, 0, 0), (GREATEST, 0, 0), (0, 1, 0), (0, 0, LEAST))
        self.check(*four, (GREATEST, 1, LEAST), 0)
        self.check(*four, (1, 1, 2 * LEAST), 1)
        self.check(*four, (0, 1, 2 * LEAST), -1)

    def test_against_fractions(self):
        source = random.Random(4)
        seen = set()
        for values in (SMALL, EXTREMES):
            for _ in range(600):
                five = random_points(source, 5, 3, values)
                answer = true_sphere(*five)
                seen.add(answer)
                self.assertEqual(sphere(*[point(*p) for p in five]), [answer], five)
        self.assertEqual(seen, {-5, -1, 0, 1})
