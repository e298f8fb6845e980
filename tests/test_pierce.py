"""Point 9: pierce."""

import itertools
import random
import unittest

from exactplaces.exact import pierce
from helper import ABOVE_ONE, BELOW_ONE, EXTREMES, GREATEST, LEAST, SMALL, point, random_points
from truth import true_pierce

TRIANGLE = ((0, 0, 0), (4, 0, 0), (0, 4, 0))
SLANTING = ((3, 0, 0), (0, 3, 0), (0, 0, 3))


class PierceTest(unittest.TestCase):
    def check(self, a, b, triangle, answer):
        self.assertEqual(true_pierce(a, b, *triangle), answer)
        a, b = point(*a), point(*b)
        for corners in itertools.permutations([point(*p) for p in triangle]):
            self.assertEqual(pierce(a, b, *corners), [answer])
            self.assertEqual(pierce(b, a, *corners), [answer])

    def test_corners_on_one_line(self):
        self.check((1, 1, -1), (1, 1, 1), ((0, 0, 0), (1, 1, 0), (3, 3, 0)), -5)
        self.check((1, 1, -1), (1, 1, 1), ((0, 0, 0), (0, 0, 0), (3, 3, 1)), -5)
        self.check((0, 0, 0), (0, 0, 0), ((0, 0, 0), (0.0, -0.0, 0), (0, 0, -0.0)), -5)

    def test_nothing_in_common(self):
        self.check((1, 1, 1), (1, 1, 5), TRIANGLE, 0)
        self.check((1, 1, -1), (1, 2, -5), TRIANGLE, 0)
        self.check((3, 3, -1), (3, 3, 1), TRIANGLE, 0)
        self.check((-1, 1, -1), (-1, 1, 1), TRIANGLE, 0)
        self.check((5, 0, -1), (5, 0, 1), TRIANGLE, 0)

    def test_just_one_within_both(self):
        self.check((1, 1, -1), (1, 1, 1), TRIANGLE, 1)
        self.check((-3, 2, -2), (5, 0, 2), TRIANGLE, 1)
        self.check((0, 0, 0), (2, 2, 2), SLANTING, 1)

    def test_through_the_rim(self):
        self.check((2, 0, -1), (2, 0, 1), TRIANGLE, 2)
        self.check((0, 3, -1), (0, 3, 1), TRIANGLE, 2)
        self.check((2, 2, -1), (2, 2, 1), TRIANGLE, 2)

    def test_through_a_corner(self):
        for x, y, z in TRIANGLE:
            self.check((x, y, -1), (x, y, 1), TRIANGLE, 2)
            self.check((x - 1, y - 1, -1), (x + 1, y + 1, 1), TRIANGLE, 2)

    def test_an_end_in_the_triangle(self):
        self.check((1, 1, 0), (1, 1, 1), TRIANGLE, 2)
        self.check((1, 1, 0), (7, 1, -3), TRIANGLE, 2)
        self.check((2, 0, 0), (1, 1, 1), TRIANGLE, 2)
        self.check((4, 0, 0), (1, 1, 1), TRIANGLE, 2)
        self.check((1, 1, 1), (5, 9, 7), SLANTING, 2)

    def test_an_end_in_the_plane_alone(self):
        self.check((3, 3, 0), (3, 3, 1), TRIANGLE, 0)
        self.check((3, 3, 0), (1, 1, 1), TRIANGLE, 0)
        self.check((5, 0, 0), (1, 1, -1), TRIANGLE, 0)

    def test_a_stretch_in_the_plane(self):
        self.check((1, 1, 0), (2, 1, 0), TRIANGLE, 3)
        self.check((-1, 1, 0), (9, 1, 0), TRIANGLE, 3)
        self.check((1, 1, 0), (9, 1, 0), TRIANGLE, 3)
        self.check((-1, 0, 0), (2, 0, 0), TRIANGLE, 3)
        self.check((0, 0, 0), (4, 0, 0), TRIANGLE, 3)
        self.check((0, 3, 0), (3, 0, 0), SLANTING, 3)
        self.check((1, 1, 1), (2, 2, -1), SLANTING, 3)

    def test_in_the_plane_touching_or_missing(self):
        self.check((-1, 1, 0), (1, -1, 0), TRIANGLE, 2)
        self.check((4, 0, 0), (9, 0, 0), TRIANGLE, 2)
        self.check((2, 2, 0), (9, 9, 0), TRIANGLE, 2)
        self.check((2, 0, 0), (2, -3, 0), TRIANGLE, 2)
        self.check((5, 0, 0), (9, 0, 0), TRIANGLE, 0)
        self.check((-1, 0, 0), (0, -1, 0), TRIANGLE, 0)
        self.check((0, 5, 0), (5, 0, 0), TRIANGLE, 0)

    def test_a_stretch_that_is_a_point(self):
        self.check((1, 1, 0), (1, 1, 0), TRIANGLE, 2)
        self.check((2, 0, 0), (2, 0, 0), TRIANGLE, 2)
        self.check((0, 4, 0), (0, 4, 0), TRIANGLE, 2)
        self.check((3, 3, 0), (3, 3, 0), TRIANGLE, 0)
        self.check((1, 1, 1), (1, 1, 1), TRIANGLE, 0)
        self.check((1, 1, 1), (1, 1, 1), SLANTING, 2)

    def test_triangles_along_each_axis(self):
        for axes in itertools.permutations(range(3)):
            triangle = [[p[axis] for axis in axes] for p in TRIANGLE]
            for a, b, answer in (((1, 1, -1), (1, 1, 1), 1), ((1, 1, 0), (3, 1, 0), 3), ((2, 0, -1), (2, 0, 1), 2)):
                self.check([a[axis] for axis in axes], [b[axis] for axis in axes], triangle, answer)

    def test_both_zeros_are_one_number(self):
        self.check((1, 1, -0.0), (1, 1, 1), ((0.0, 0.0, -0.0), (4, -0.0, 0.0), (-0.0, 4, 0.0)), 2)
        self.check((1, 1, -0.0), (1, 1, 0.0), TRIANGLE, 2)

    def test_last_bit_alone(self):
        triangle = ((0, 0, 0), (2, 0, 0), (0, 2, 0))
        self.check((1, BELOW_ONE, -1), (1, BELOW_ONE, 1), triangle, 1)
        self.check((1, 1, -1), (1, 1, 1), triangle, 2)
        self.check((1, ABOVE_ONE, -1), (1, ABOVE_ONE, 1), triangle, 0)
        self.check((1, 0.5, LEAST), (1, 0.5, 1), triangle, 0)
        self.check((1, 0.5, -LEAST), (1, 0.5, 1), triangle, 1)

    def test_least_and_greatest_numbers(self):
        tiny = ((0, 0, 0), (4 * LEAST, 0, 0), (0, 4 * LEAST, 0))
        self.check((LEAST, LEAST, -LEAST), (LEAST, LEAST, LEAST), tiny, 1)
        self.check((LEAST, 0, -GREATEST), (LEAST, 0, GREATEST), tiny, 2)
        self.check((2 * LEAST, 3 * LEAST, -1), (2 * LEAST, 3 * LEAST, 1), tiny, 0)
        tiny = ((0, 0, 0), (LEAST, 0, 0), (0, LEAST, 0))
        self.check((0, -LEAST, 0), (0, 0, 0), tiny, 2)
        self.check((-LEAST, 0, 0), (0, 0, 0), tiny, 2)
        self.check((LEAST, LEAST, 0), (LEAST, 0, 0), tiny, 2)
        self.check((LEAST, LEAST, 0), (0, 0, 0), tiny, 3)
        great = ((-GREATEST, -GREATEST, 0), (GREATEST, -GREATEST, 0), (0, GREATEST, 0))
        self.check((0, 0, -LEAST), (0, 0, LEAST), great, 1)
        self.check((LEAST, GREATEST, -LEAST), (LEAST, GREATEST, LEAST), great, 0)

    def test_against_fractions(self):
        source = random.Random(9)
        seen = set()
        for values in (SMALL, EXTREMES, (0.0, 1.0, 2.0)):
            for _ in range(1500):
                five = random_points(source, 5, 3, values)
                answer = true_pierce(*five)
                seen.add(answer)
                self.assertEqual(pierce(*[point(*p) for p in five]), [answer], five)
        self.assertEqual(seen, {-5, 0, 1, 2, 3})

    def test_in_the_plane_against_fractions(self):
        source = random.Random(19)
        seen = set()
        for step in (1, LEAST):
            for _ in range(1000):
                flat = random_points(source, 5, 2, range(4))
                five = [(x * step, y * step, (3 - 2 * x + y) * step) for x, y in flat]
                answer = true_pierce(*five)
                seen.add(answer)
                self.assertEqual(pierce(*[point(*p) for p in five]), [answer], five)
        self.assertEqual(seen, {-5, 0, 2, 3})
