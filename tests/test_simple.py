"""Point 11: simple."""

import random
import unittest

from exactplaces.exact import simple
from helper import ABOVE_ONE, BELOW_ONE, EXTREMES, GREATEST, LEAST, SMALL, joined, random_points
from truth import true_simple


# A loop of that many points, an even count: up and down in teeth, and back below.
def comb(count):
    teeth = [(i, 2 + i % 2) for i in range(count - 2)]
    return [(count - 3, 0)] + teeth[::-1] + [(0, 0)]


class SimpleTest(unittest.TestCase):
    def check(self, loop, answer):
        loop = list(loop)
        self.assertEqual(true_simple(loop), answer)
        for start in range(len(loop)):
            shifted = loop[start:] + loop[:start]
            self.assertEqual(simple(joined(shifted)), [answer])
            self.assertEqual(simple(joined(shifted[::-1])), [answer])

    def test_simple_loops(self):
        self.check(((0, 0), (4, 0), (0, 3)), 1)
        self.check(((0, 0), (4, 0), (4, 4), (0, 4)), 1)
        self.check(((0, 0), (4, 0), (4, 4), (2, 1), (0, 4)), 1)
        self.check(((0, 0), (2, 0), (4, 0), (4, 4), (0, 4)), 1)

    def test_two_stretches_that_cross(self):
        self.check(((0, 0), (4, 4), (0, 4), (4, 0)), 0)
        self.check(((0, 4), (-3, -4), (4, 1), (-4, 1), (3, -4)), 0)

    def test_a_corner_on_another_stretch(self):
        self.check(((0, 0), (4, 0), (4, 4), (2, 0), (0, 4)), 0)
        self.check(((0, 0), (4, 0), (4, 4), (0, 4), (4, 2)), 0)

    def test_a_corner_twice(self):
        self.check(((2, 2), (0, 0), (4, 0), (2, 2), (4, 4), (0, 4)), 0)

    def test_stretches_that_lie_on_one_another(self):
        self.check(((0, 0), (4, 0), (6, 3), (5, 0), (2, 0), (1, 5)), 0)
        self.check(((0, 0), (6, 0), (6, 3), (5, 0), (2, 0), (1, 5)), 0)

    def test_neighbours_that_turn_back(self):
        self.check(((0, 0), (4, 0), (2, 0), (2, 3)), 0)
        self.check(((0, 0), (4, 0), (2, 0)), 0)
        self.check(((0, 0), (2, 0), (4, 0)), 0)
        self.check(((0, 0), (4, 0), (0, 0), (2, 3)), 0)

    def test_a_stretch_whose_ends_are_the_same(self):
        self.check(((0, 0), (4, 0), (4, 0), (0, 3)), 0)
        self.check(((0, 0), (4, 0), (0, 3), (0, 0)), 0)
        self.check(((1, 1), (1, 1), (1, 1)), 0)
        self.check(((0, 0), (0, 0), (4, 1)), 0)

    def test_both_zeros_are_one_number(self):
        self.check(((0.0, 0.0), (4, 0), (0, 3), (-0.0, -0.0)), 0)
        self.check(((0.0, 0.0), (4, -0.0), (-0.0, 3)), 1)

    def test_last_bit_alone(self):
        self.check(((0, 0), (2, 0), (2, 2), (1, 2), (1, LEAST), (0.5, 2)), 1)
        self.check(((0, 0), (2, 0), (2, 2), (1, 2), (1, 0), (0.5, 2)), 0)
        self.check(((0, 0), (2, 2), (BELOW_ONE, 1), (0, 2)), 1)
        self.check(((0, 0), (2, 2), (1, 1), (0, 2)), 0)
        self.check(((0, 0), (2, 2), (ABOVE_ONE, 1), (0, 2)), 0)

    def test_least_and_greatest_numbers(self):
        self.check(((0, 0), (LEAST, 0), (LEAST, LEAST), (0, LEAST)), 1)
        self.check(((0, 0), (LEAST, LEAST), (LEAST, 0), (0, LEAST)), 0)
        self.check(((-GREATEST, -GREATEST), (GREATEST, -GREATEST), (0, -GREATEST + 2.0 ** 971)), 1)
        self.check(((-GREATEST, 0), (GREATEST, 0), (GREATEST, LEAST), (-GREATEST, LEAST)), 1)
        self.check(((-GREATEST, 0), (GREATEST, LEAST), (GREATEST, 0), (-GREATEST, LEAST)), 0)

    def test_longest_and_shortest_loops(self):
        self.assertEqual(simple(joined(comb(128))), [1])
        self.assertEqual(simple(joined(comb(128)[:-1] + [(0, 2)])), [0])
        self.assertEqual(simple(joined(comb(130)[:-1])), [-8])
        self.assertEqual(simple(joined(comb(130))), [-8])
        self.assertEqual(simple(joined(comb(4)[:3])), [1])
        for count in (0, 1, 2):
            self.assertEqual(simple(joined(comb(4)[:count])), [-8])

    def test_a_fault_at_the_end_of_a_long_loop(self):
        self.assertEqual(simple(joined(comb(128)[:-1] + [(1, 2.5)])), [0])
        self.assertEqual(simple(joined([(125, 3)] + comb(128)[1:])), [0])

    def test_lists_that_end_in_part(self):
        for count in (5, 7, 9, 255, 257):
            self.assertEqual(simple(joined(comb(200))[:count]), [-8])

    def test_against_fractions(self):
        source = random.Random(11)
        seen = []
        for values in (SMALL, EXTREMES, range(20)):
            for _ in range(500):
                loop = random_points(source, source.randrange(3, 7), 2, values)
                answer = true_simple(loop)
                seen.append(answer)
                self.assertEqual(simple(joined(loop)), [answer], loop)
        self.assertGreater(seen.count(1), 100)
        self.assertGreater(seen.count(0), 100)
