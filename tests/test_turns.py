"""Point 10: turns."""

import math
import random
import unittest

from exactplaces.exact import turns
from helper import ABOVE_ONE, BELOW_ONE, EXTREMES, GREATEST, LEAST, SMALL, joined, point, random_points
from truth import true_turns

SQUARE = ((0, 0), (4, 0), (4, 4), (0, 4))


# By the angles that the loop's stretches are seen under from p.
def turns_by_angles(loop, p):
    total = 0.0
    for q, r in zip(loop, loop[1:] + loop[:1]):
        ux, uy, vx, vy = q[0] - p[0], q[1] - p[1], r[0] - p[0], r[1] - p[1]
        total += math.atan2(ux * vy - uy * vx, ux * vx + uy * vy)
    return round(total / (2 * math.pi))


class TurnsTest(unittest.TestCase):
    def check(self, loop, p, on, count):
        loop = list(loop)
        self.assertEqual(true_turns(loop, p), [0, on, count])
        for start in range(len(loop)):
            shifted = loop[start:] + loop[:start]
            self.assertEqual(turns(joined(shifted), point(*p)), [0, on, count])
            self.assertEqual(turns(joined(shifted[::-1]), point(*p)), [0, on, -count])

    def test_round_once_either_way_and_not_at_all(self):
        self.check(SQUARE, (1, 2), 0, 1)
        self.check(SQUARE[::-1], (1, 2), 0, -1)
        self.check(SQUARE, (5, 2), 0, 0)
        self.check(SQUARE, (-1, 2), 0, 0)
        self.check(SQUARE, (2, 5), 0, 0)
        self.check(SQUARE, (2, -1), 0, 0)

    def test_on_the_loop(self):
        for corner in SQUARE:
            self.check(SQUARE, corner, 1, 0)
        for p in ((2, 0), (4, 1), (3, 4), (0, 2)):
            self.check(SQUARE, p, 1, 0)
        self.check(((0, 0), (6, 3), (1, 7)), (4, 2), 1, 0)

    def test_on_a_stretchs_line_alone(self):
        for p in ((5, 0), (-1, 0), (4, 5), (-1, 4), (0, -1)):
            self.check(SQUARE, p, 0, 0)

    def test_corners_at_the_height_of_p(self):
        diamond = ((0, -2), (2, 0), (0, 2), (-2, 0))
        self.check(diamond, (0, 0), 0, 1)
        self.check(diamond, (-3, 0), 0, 0)
        self.check(diamond, (3, 0), 0, 0)
        self.check(diamond, (-1, -2), 0, 0)
        self.check(diamond, (-1, 2), 0, 0)
        self.check(((0, 0), (2, 0), (3, 0), (3, 2), (-3, 2), (-3, -2), (0, -2)), (-1, 0), 0, 1)

    def test_round_more_often(self):
        self.check(SQUARE * 3, (1, 2), 0, 3)
        self.check(SQUARE[::-1] * 5, (1, 2), 0, -5)
        star = ((0, 4), (-3, -4), (4, 1), (-4, 1), (3, -4))
        self.check(star, (0, 0), 0, 2)
        self.check(star, (0, 3), 0, 1)
        self.check(star, (3, 3), 0, 0)

    def test_there_and_back(self):
        self.check(SQUARE + SQUARE[::-1], (1, 2), 0, 0)
        self.check(((0, 0), (4, 0), (2, 0)), (1, 0), 1, 0)
        self.check(((0, 0), (4, 0), (2, 0)), (1, 1), 0, 0)
        self.check(((0, 0), (4, 4), (0, 4), (4, 0)), (2, 1), 0, -1)
        self.check(((0, 0), (4, 4), (0, 4), (4, 0)), (2, 3), 0, 1)

    def test_stretches_that_are_points(self):
        self.check(((1, 1), (1, 1), (1, 1)), (1, 1), 1, 0)
        self.check(((1, 1), (1, 1), (1, 1)), (1, 2), 0, 0)
        self.check(((0, 0), (0, 0), (4, 0), (4, 4), (4, 4), (0, 4)), (1, 2), 0, 1)

    def test_both_zeros_are_one_number(self):
        self.check(((-0.0, 0.0), (4, -0.0), (4, 4), (0.0, 4)), (-0.0, -0.0), 1, 0)
        self.check(((-2, -2), (2, -2), (2, -0.0), (0.0, 2)), (-0.0, 0.0), 0, 1)

    def test_last_bit_alone(self):
        loop = ((0, 0), (1, 0), (1, 1), (0, 1))
        self.check(loop, (BELOW_ONE, 0.5), 0, 1)
        self.check(loop, (1, 0.5), 1, 0)
        self.check(loop, (ABOVE_ONE, 0.5), 0, 0)
        slanting = ((0.5, 0.5), (24, 24), (0, 24))
        self.check(slanting, (12, 12), 1, 0)
        self.check(((0.5, 0.5 + 2.0 ** -53), (24, 24), (0, 24)), (12, 12), 0, 0)
        self.check(((0.5, 0.5 - 2.0 ** -54), (24, 24), (0, 24)), (12, 12), 0, 1)

    def test_least_and_greatest_numbers(self):
        tiny = ((-LEAST, -LEAST), (LEAST, -LEAST), (0, LEAST))
        self.check(tiny, (0, 0), 0, 1)
        self.check(tiny, (LEAST, 0), 0, 0)
        great = ((-GREATEST, -GREATEST), (GREATEST, -GREATEST), (0, GREATEST))
        self.check(great, (LEAST, 1), 0, 1)
        self.check(great, (LEAST, GREATEST), 0, 0)
        self.check(great, (LEAST, -GREATEST), 1, 0)

    def test_longest_and_shortest_loops(self):
        corners = [(x, -1) for x in range(256)] + [(255 - x, 1) for x in range(256)]
        self.assertEqual(turns(joined(corners), point(3.5, 0)), [0, 0, 1])
        self.assertEqual(turns(joined(corners), point(3.5, 1)), [0, 1, 0])
        self.assertEqual(turns(joined(corners), point(256, 0)), [0, 0, 0])
        self.assertEqual(turns(joined(corners + [(0, 0)]), point(3.5, 0)), [-8])
        self.assertEqual(turns(joined(SQUARE[:3]), point(3, 1)), [0, 0, 1])
        for count in (0, 1, 2):
            self.assertEqual(turns(joined(SQUARE[:count]), point(3, 1)), [-8])

    def test_lists_that_end_in_part(self):
        for count in (5, 7, 1023, 1025):
            self.assertEqual(turns([0] * count, point(3, 1)), [-8])

    def test_a_wrong_point(self):
        for p in ([], point(1), point(1, 1, 1), point(1, 1, 1, 1)):
            self.assertEqual(turns(joined(SQUARE), p), [-8])

    def test_against_fractions(self):
        source = random.Random(10)
        for values in (SMALL, EXTREMES):
            for _ in range(600):
                loop = random_points(source, source.randrange(3, 9), 2, values)
                p = random_points(source, 1, 2, values)[0]
                self.assertEqual(turns(joined(loop), point(*p)), true_turns(loop, p), (loop, p))

    def test_against_angles(self):
        source = random.Random(20)
        seen = set()
        for _ in range(600):
            loop = random_points(source, source.randrange(3, 30), 2, range(-5, 6))
            p = random_points(source, 1, 2, range(-3, 4))[0]
            first, on, count = turns(joined(loop), point(*p))
            if not on:
                self.assertEqual(count, turns_by_angles(loop, p), (loop, p))
                seen.add(count)
        self.assertLessEqual({-2, -1, 0, 1, 2}, seen)
