"""Point 13: nearest."""

import random
import unittest

from exactplaces.exact import nearest
from helper import ABOVE_ONE, BELOW_GREATEST, EXTREMES, GREATEST, LEAST, SMALL, joined, point, random_points
from truth import exact_points, inner, way


def true_nearest(p, points):
    (p,), points = exact_points([p]), exact_points(points)
    return min(range(len(points)), key=lambda i: inner(way(p, points[i]), way(p, points[i])))


class NearestTest(unittest.TestCase):
    def check(self, p, points, place):
        self.assertEqual(true_nearest(p, points), place)
        self.assertEqual(nearest(len(p), point(*p), joined(points)), [place])

    def test_in_the_plane(self):
        self.check((1, 1), [(5, 5), (2, 3), (2, 2), (0, -1)], 2)
        self.check((1, 1), [(7, 7)], 0)
        self.check((4, 4), [(0, 0), (1, 1), (2, 2), (3, 3)], 3)

    def test_in_space(self):
        self.check((1, 1, 1), [(1, 1, 5), (2, 2, 2), (1, 1, 3)], 1)
        self.check((1, 1, 1), [(1, 1, 2), (2, 2, 2), (1, 1, 3)], 0)
        self.check((0, 0, 9), [(0, 0, 0), (5, 5, 5), (3, 3, 7)], 2)

    def test_the_first_of_those_as_near(self):
        self.check((0, 0), [(9, 9), (3, 4), (5, 0), (-4, -3), (0, -5)], 1)
        self.check((0, 0, 0), [(3, 0, 1), (2, 1, 2), (3, 0, 0), (1, 2, 2)], 1)
        self.check((1, 2), [(3, 3), (3, 3), (3, 3)], 0)
        self.check((0, 0), [(9, 9), (0.0, -0.0), (-0.0, 0.0)], 1)

    def test_last_bit_alone(self):
        self.check((0, 0), [(ABOVE_ONE, 0), (1, 0), (0, ABOVE_ONE)], 1)
        self.check((2.0 ** -60, 0), [(-1, 0), (1, 0)], 1)
        self.check((LEAST, 0, 0), [(-GREATEST, 0, 0), (GREATEST, 0, 0)], 1)

    def test_least_and_greatest_numbers(self):
        self.check((0, 0), [(LEAST, LEAST), (0, LEAST), (LEAST, 0)], 1)
        self.check((-GREATEST, 0), [(GREATEST, 0), (BELOW_GREATEST, 0)], 1)

    def test_how_many_points(self):
        points = [(9, i) for i in range(4095)] + [(8, 7)]
        for k in (2, 3):
            many = [(0,) * (k - 2) + p for p in points]
            p = (0,) * (k - 2) + (8, 8)
            self.assertEqual(nearest(k, point(*p), joined(many)), [8])
            self.assertEqual(nearest(k, point(*p), joined(many[4:])), [4])
            p = (0,) * (k - 2) + (7, 7)
            self.assertEqual(nearest(k, point(*p), joined(many)), [4095])
            self.assertEqual(nearest(k, point(*p), joined(many + [p])), [-8])
            self.assertEqual(nearest(k, point(*p), joined([p])), [0])
            self.assertEqual(nearest(k, point(*p), []), [-8])

    def test_lists_that_end_in_part(self):
        for k, p in ((2, point(1, 2)), (3, point(1, 2, 3))):
            for count in (1, k - 1, k + 1, 4096 * k - 1, 4096 * k + 1):
                self.assertEqual(nearest(k, p, [0] * count), [-8])

    def test_wrong_k(self):
        for k in (0, 1, 4, 5, 2 ** 64 - 1):
            for of in range(5):
                self.assertEqual(nearest(k, [0] * of, [0] * of), [-8])
                self.assertEqual(nearest(k, [0] * of, [0] * 12), [-8])
        self.assertEqual(nearest(2, [0] * 3, [0] * 12), [-8])
        self.assertEqual(nearest(3, [0] * 2, [0] * 12), [-8])
        self.assertEqual(nearest(2, [0] * 2, [0] * 12), [0])

    def test_against_fractions(self):
        source = random.Random(13)
        for k in (2, 3):
            for values in (SMALL, EXTREMES):
                for _ in range(300):
                    points = random_points(source, source.randrange(1, 20), k, values)
                    p = random_points(source, 1, k, values)[0]
                    self.assertEqual(nearest(k, point(*p), joined(points)), [true_nearest(p, points)])
