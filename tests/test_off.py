"""Point 19: off."""

import math
import random
import unittest

from exactplaces.exact import off
from helper import ABOVE_ONE, EXTREMES, GREATEST, LEAST, SMALL, any_number, bits, near_number, point
from truth import answer_of, foot_of, inner, root_of, values_of, way


def true_off(p, a, b):
    p, a, b = [values_of(q) for q in (p, a, b)]
    foot = foot_of(p, a, b)
    return [-5] if foot is None else answer_of([root_of(inner(way(p, foot), way(p, foot)))])


class OffTest(unittest.TestCase):
    def check(self, p, a, b, answer):
        p, a, b = point(*p), point(*a), point(*b)
        expected = [0, bits(answer)] if isinstance(answer, float) else [answer]
        self.assertEqual(true_off(p, a, b), expected)
        self.assertEqual(off(p, a, b), expected)
        self.assertEqual(off(p, b, a), expected)

    # Roughly reckoned by hand, exactly by fractions.
    def check_near(self, p, a, b, rough):
        answer = true_off(point(*p), point(*a), point(*b))
        self.assertAlmostEqual(float(values_of(answer[1:])[0]) / rough, 1.0)
        self.assertEqual(off(point(*p), point(*a), point(*b)), answer)
        self.assertEqual(off(point(*p), point(*b), point(*a)), answer)

    def test_either_side(self):
        self.check((3, 4), (0, 0), (1, 0), 4.0)
        self.check((3, -4), (0, 0), (1, 0), 4.0)
        self.check((7, 1), (2, 0), (2, 9), 5.0)
        self.check((0, 5), (0, 0), (4, 3), 4.0)
        self.check((1, 0), (0, 0), (1, 1), math.sqrt(0.5))

    def test_beyond_the_ends(self):
        self.check((100, 4), (0, 0), (1, 0), 4.0)
        self.check((-100, 4), (0, 0), (1, 0), 4.0)

    def test_on_the_line(self):
        self.check((2, 1), (0, 0), (4, 2), 0.0)
        self.check((8, 4), (0, 0), (4, 2), 0.0)
        self.check((0, 0), (0, 0), (4, 2), 0.0)
        self.check((-0.0, -0.0), (0.0, 0.0), (4, 2), 0.0)

    def test_a_is_b(self):
        self.check((3, 4), (1, 1), (1, 1), -5)
        self.check((1, 1), (1, 1), (1, 1), -5)
        self.check((3, 4), (0.0, -0.0), (-0.0, 0.0), -5)
        self.check((-GREATEST, -GREATEST), (GREATEST, GREATEST), (GREATEST, GREATEST), -5)

    def test_halves(self):
        self.check((0, 1), (-1, -2.0 ** -53), (1, -2.0 ** -53), 1.0)
        self.check((0, ABOVE_ONE), (-1, -2.0 ** -53), (1, -2.0 ** -53), 1 + 2.0 ** -51)
        self.check((0, 1), (-1, -2.0 ** -53 - 2.0 ** -105), (1, -2.0 ** -53 - 2.0 ** -105), ABOVE_ONE)
        # Very nearly a half, for the line is not quite level.
        self.check((0, 1), (-1, -2.0 ** -53), (2.0 ** 600, -2.0 ** -53 + LEAST), 1.0)

    def test_where_rounding_at_each_step_fails(self):
        self.check_near((1e200, 1e200), (0, 0), (1e200, 1e200 + 2.0 ** 613), 2.0 ** 613 * math.sqrt(0.5))
        self.check_near((12, 12), (0.5, 0.5 + 2.0 ** -53), (24, 24), 12 / 23.5 * 2.0 ** -53 * math.sqrt(0.5))
        self.check((1, LEAST), (0, 0), (GREATEST, 0), LEAST)

    def test_least_numbers(self):
        self.check((0, LEAST), (0, 0), (1, 0), LEAST)
        self.check((0, LEAST), (0, 0), (1, 1), LEAST)
        self.check((0, LEAST), (0, 0), (1, 2), 0.0)
        self.check((0, LEAST), (LEAST, 0), (0, 0), LEAST)
        self.check((0, 3 * LEAST), (0, 0), (LEAST, LEAST), 2 * LEAST)

    def test_beyond_the_greatest_number_or_not(self):
        self.check((0, GREATEST), (0, 0), (1, 0), GREATEST)
        self.check((0, GREATEST), (0, -(2.0 ** 970)), (1, -(2.0 ** 970)), -7)
        self.check((0, GREATEST), (0, -(2.0 ** 970) + 2.0 ** 917), (1, -(2.0 ** 970) + 2.0 ** 917), GREATEST)
        self.check((GREATEST, -GREATEST), (-GREATEST, GREATEST), (-GREATEST, -1), -7)
        self.check((GREATEST, -GREATEST), (0, 0), (LEAST, LEAST), -7)

    def test_against_fractions(self):
        source = random.Random(29)
        seen = set()
        for number in (near_number, any_number, lambda s: bits(s.choice(EXTREMES)), lambda s: bits(s.choice(SMALL))):
            for _ in range(200):
                three = [[number(source), number(source)] for _ in range(3)]
                answer = true_off(*three)
                seen.add(answer[0])
                self.assertEqual(off(*three), answer, three)
        self.assertEqual(seen, {0, -5, -7})
