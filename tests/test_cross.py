"""Point 8: cross."""

import random
import unittest

from exactplaces.exact import cross
from helper import ABOVE_ONE, BELOW_GREATEST, EXTREMES, GREATEST, LEAST, SMALL, point, random_points
from truth import true_cross


class CrossTest(unittest.TestCase):
    def check(self, a, b, c, d, answer):
        self.assertEqual(true_cross(a, b, c, d), answer)
        a, b, c, d = [point(*p) for p in (a, b, c, d)]
        for one in ((a, b), (b, a)):
            for other in ((c, d), (d, c)):
                self.assertEqual(cross(*one, *other), [answer])
                self.assertEqual(cross(*other, *one), [answer])

    def test_nothing_in_common(self):
        self.check((0, 0), (2, 2), (3, 0), (5, 9), 0)
        self.check((0, 0), (4, 0), (2, 1), (2, 5), 0)

    def test_just_one_within_both(self):
        self.check((0, 0), (4, 4), (0, 4), (4, 0), 1)
        self.check((-3, 1), (7, 1), (0, -9), (1, 9), 1)

    def test_an_end_within_the_other(self):
        self.check((0, 0), (4, 0), (2, 0), (2, 5), 2)
        self.check((0, 0), (4, 2), (2, 1), (7, -3), 2)

    def test_an_end_of_both(self):
        self.check((0, 0), (4, 0), (4, 0), (2, 5), 2)

    def test_an_end_on_the_others_line_alone(self):
        self.check((0, 0), (4, 0), (5, 0), (7, 5), 0)
        self.check((0, 0), (4, 0), (-1, 0), (-1, 5), 0)

    def test_parallel(self):
        self.check((0, 0), (4, 2), (0, 1), (4, 3), 0)

    def test_one_line_a_piece_in_common(self):
        self.check((0, 0), (4, 2), (2, 1), (6, 3), 3)
        self.check((0, 0), (6, 3), (2, 1), (4, 2), 3)
        self.check((0, 0), (6, 3), (0, 0), (4, 2), 3)
        self.check((0, 0), (6, 3), (0, 0), (6, 3), 3)

    def test_one_line_an_end_alone_or_nothing(self):
        self.check((0, 0), (4, 2), (4, 2), (6, 3), 2)
        self.check((0, 0), (4, 2), (6, 3), (8, 4), 0)

    def test_upright_and_falling_lines(self):
        self.check((1, 0), (1, 4), (1, 3), (1, 9), 3)
        self.check((1, 0), (1, 4), (1, 4), (1, 9), 2)
        self.check((1, 0), (1, 4), (1, 5), (1, 9), 0)
        self.check((0, 6), (3, 0), (2, 2), (5, -4), 3)
        self.check((0, 6), (1, 4), (2, 2), (5, -4), 0)

    def test_one_stretch_is_a_point(self):
        self.check((2, 1), (2, 1), (0, 0), (4, 2), 2)
        self.check((4, 2), (4, 2), (0, 0), (4, 2), 2)
        self.check((6, 3), (6, 3), (0, 0), (4, 2), 0)
        self.check((2, 2), (2, 2), (0, 0), (4, 2), 0)

    def test_both_stretches_are_points(self):
        self.check((2, 1), (2, 1), (2, 1), (2, 1), 2)
        self.check((2, 1), (2, 1), (2, 3), (2, 3), 0)
        self.check((2, 1), (2, 1), (5, 1), (5, 1), 0)

    def test_both_zeros_are_one_number(self):
        self.check((0.0, -0.0), (-0.0, 0.0), (-0.0, -0.0), (0.0, 0.0), 2)
        self.check((-0.0, 0), (1, 0), (0.0, -0.0), (-1, 0), 2)
        self.check((-0.0, 0), (0.0, 1), (0.0, 1), (-0.0, 2), 2)

    def test_last_bit_alone(self):
        self.check((1, 0), (1, 3), (ABOVE_ONE, 0), (ABOVE_ONE, 3), 0)
        self.check((0, 0), (1, 1), (1, 1), (2, 2), 2)
        self.check((0, 0), (1, 1), (ABOVE_ONE, ABOVE_ONE), (2, 2), 0)
        self.check((0, 0), (ABOVE_ONE, ABOVE_ONE), (1, 1), (2, 2), 3)
        # Ends by the other's line, a last bit off: rounded, they seem to be on it.
        self.check((12, 12), (24, 24), (0.5, 0.5 + 2.0 ** -53), (30, 30), 0)
        self.check((0.5, 0.5), (24, 24), (12, 12), (12, 30), 2)

    def test_least_numbers(self):
        self.check((0, 0), (2 * LEAST, 2 * LEAST), (0, 2 * LEAST), (2 * LEAST, 0), 1)
        self.check((0, 0), (LEAST, LEAST), (0, LEAST), (LEAST, 0), 1)
        self.check((0, 0), (LEAST, 0), (LEAST, 0), (LEAST, LEAST), 2)
        self.check((0, 0), (LEAST, 0), (0, LEAST), (LEAST, LEAST), 0)

    def test_greatest_numbers(self):
        low, high = (-GREATEST, -GREATEST), (GREATEST, GREATEST)
        self.check(low, high, (-GREATEST, GREATEST), (GREATEST, -GREATEST), 1)
        self.check(low, high, (GREATEST, BELOW_GREATEST), (GREATEST, 0), 0)
        self.check(low, high, (BELOW_GREATEST, BELOW_GREATEST), (GREATEST, 0), 2)
        self.check(low, high, (BELOW_GREATEST, BELOW_GREATEST), high, 3)

    def test_great_and_tiny_together(self):
        self.check((-GREATEST, 0), (GREATEST, 0), (0, -LEAST), (0, LEAST), 1)
        self.check((-GREATEST, 0), (GREATEST, 0), (0, 2 * LEAST), (1, LEAST), 0)
        self.check((0, 0), (GREATEST, GREATEST), (1, 1), (1, LEAST), 2)
        self.check((0, LEAST), (GREATEST, GREATEST), (1, 1), (1, LEAST), 0)

    def test_against_fractions(self):
        source = random.Random(8)
        seen = set()
        for values in (SMALL, EXTREMES, (0.0, 1.0, 2.0)):
            for _ in range(1000):
                four = random_points(source, 4, 2, values)
                answer = true_cross(*four)
                seen.add(answer)
                self.assertEqual(cross(*[point(*p) for p in four]), [answer], four)
        self.assertEqual(seen, {0, 1, 2, 3})

    def test_on_one_line_against_fractions(self):
        source = random.Random(9)
        for _ in range(500):
            four = [(x, 3 - 2 * x) for x in source.choices(range(4), k=4)]
            self.assertEqual(cross(*[point(*p) for p in four]), [true_cross(*four)], four)
