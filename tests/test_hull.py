"""Point 12: hull."""

import random
import unittest

from exactplaces.exact import hull
from helper import ABOVE_ONE, BELOW_ONE, EXTREMES, GREATEST, LEAST, SMALL, joined, random_points
from truth import true_hull


class HullTest(unittest.TestCase):
    def check(self, points, places):
        self.assertEqual(true_hull(points), [len(places)] + places)
        self.assertEqual(hull(joined(points)), [len(places)] + places)

    def test_one_point(self):
        self.check([(3, 4)], [0])
        self.check([(3, 4)] * 5, [0])
        self.check([(0.0, -0.0), (-0.0, 0.0)], [0])

    def test_a_stretch(self):
        self.check([(3, 4), (1, 2)], [1, 0])
        self.check([(1, 2), (3, 4)], [0, 1])
        self.check([(2, 2), (0, 0), (3, 3), (1, 1)], [1, 2])
        self.check([(5, 1), (0, 1), (3, 1)], [1, 0])
        self.check([(1, 5), (1, 0), (1, 3)], [1, 0])
        self.check([(0, 6), (3, 0), (2, 2)], [1, 0])

    def test_leftwards_round(self):
        self.check([(0, 0), (4, 0), (4, 4), (0, 4)], [0, 1, 2, 3])
        self.check([(0, 4), (4, 4), (4, 0), (0, 0)], [3, 2, 1, 0])
        self.check([(2, 1), (0, 0), (4, 3), (5, 0), (1, 4), (2, 2)], [1, 3, 2, 4])

    def test_from_the_lowest_and_of_those_the_leftmost(self):
        self.check([(5, 5), (9, 1), (4, 1), (0, 3)], [2, 1, 0, 3])
        self.check([(5, 5), (9, 2), (4, 1), (0, 3)], [2, 1, 0, 3])
        self.check([(0, 5), (3, 7), (5, 0)], [2, 1, 0])

    def test_the_same_points(self):
        self.check([(4, 4), (0, 0), (4, 0), (0, 0), (4, 4), (4, 0), (0, 4), (0, 4)], [1, 2, 0, 6])
        self.check([(3, 3), (1, 1), (1, 1), (3, 3)], [1, 0])

    def test_between_two_corners_on_one_line(self):
        self.check([(0, 0), (2, 0), (4, 0), (4, 2), (4, 4), (2, 4), (0, 4), (0, 2)], [0, 2, 4, 6])
        self.check([(3, 3), (0, 0), (2, 2), (1, 1), (6, 0), (5, 1), (4, 2)], [1, 4, 0])

    def test_points_within(self):
        self.check([(2, 2), (0, 0), (1, 2), (4, 0), (3, 3), (0, 4), (4, 4)], [1, 3, 6, 5])

    def test_both_zeros_are_one_number(self):
        self.check([(4, 0.0), (-0.0, -0.0), (0.0, 0.0), (-0.0, 4), (2, -0.0)], [1, 0, 3])

    def test_last_bit_alone(self):
        self.check([(0, 0), (1, BELOW_ONE), (2, 2)], [0, 1, 2])
        self.check([(0, 0), (1, 1), (2, 2)], [0, 2])
        self.check([(0, 0), (1, ABOVE_ONE), (2, 2)], [0, 2, 1])
        self.check([(0.5, 0.5 + 2.0 ** -53), (12, 12), (24, 24)], [0, 1, 2])

    def test_least_and_greatest_numbers(self):
        self.check([(0, 0), (LEAST, 0), (0, LEAST), (LEAST, LEAST)], [0, 1, 3, 2])
        self.check([(GREATEST, GREATEST), (-GREATEST, -GREATEST), (1, 1)], [1, 0])
        self.check([(GREATEST, GREATEST), (-GREATEST, -GREATEST), (LEAST, 0)], [1, 2, 0])
        self.check([(-GREATEST, 0), (GREATEST, 0), (0, LEAST), (0, -LEAST)], [3, 1, 2, 0])

    def test_how_many_points(self):
        parabola = [(i, i * i) for i in range(256)]
        self.assertEqual(hull(joined(parabola)), [256] + list(range(256)))
        self.assertEqual(hull(joined(parabola + [(1, 1)])), [-8])
        self.assertEqual(hull([]), [-8])
        self.assertEqual(hull(joined(parabola)[:1]), [-8])
        self.assertEqual(hull(joined(parabola)[:7]), [-8])
        self.assertEqual(hull(joined(parabola)[:511]), [-8])
        self.assertEqual(hull(joined(parabola) + [0]), [-8])

    def test_against_fractions(self):
        source = random.Random(12)
        for values in (SMALL, EXTREMES, range(30), (0.0, 1.0)):
            for _ in range(150):
                points = random_points(source, source.randrange(1, 12), 2, values)
                self.assertEqual(hull(joined(points)), true_hull(points), points)
