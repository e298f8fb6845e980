"""Points 20 to 24: meet, foot, centre, centre3, cutting, normal."""

import itertools
import random
import unittest

from exactplaces.exact import centre, centre3, cutting, foot, meet, normal
from helper import ABOVE_ONE, EXTREMES, GREATEST, LEAST, SMALL, any_number, bits, near_number, point
from truth import (answer_of, answer_or_not_there, centre_of, cutting_of, foot_of, meeting_of, numbers_of,
                   outer, values_of, way)

SIZES = (near_number, any_number, lambda s: bits(s.choice(EXTREMES)), lambda s: bits(s.choice(SMALL)))
HALFWAY = 1 + 2.0 ** -51
TOP_STEP = 2.0 ** 971


def exact(points):
    return [values_of(p) for p in points]


def true_meet(a, b, c, d):
    return answer_or_not_there(meeting_of(*exact((a, b, c, d))))


def true_foot(k, p, a, b):
    return answer_or_not_there(foot_of(*exact((p, a, b))))


def true_centre(a, *others):
    return answer_or_not_there(centre_of(values_of(a), exact(others)))


def true_cutting(a, b, c, d, e):
    return answer_or_not_there(cutting_of(*exact((a, b, c, d, e))))


def true_normal(a, b, c):
    a, b, c = exact((a, b, c))
    return answer_of(outer(way(a, b), way(a, c)))


class PlaceTest(unittest.TestCase):
    def assert_told(self, call, truth, handed, answer):
        expected = [0] + numbers_of(answer) if isinstance(answer, tuple) else [answer]
        self.assertEqual(truth(*handed), expected, (call.__name__, handed))
        self.assertEqual(call(*handed), expected, (call.__name__, handed))

    def check_against_fractions(self, call, truth, count, k, seed, ahead=(), answers=(0, -5, -7)):
        source = random.Random(seed)
        seen = set()
        for number in SIZES:
            for _ in range(250):
                handed = [*ahead] + [[number(source) for _ in range(k)] for _ in range(count)]
                answer = truth(*handed)
                seen.add(answer[0])
                self.assertEqual(call(*handed), answer, handed)
        self.assertLessEqual(set(answers), seen)


class MeetTest(PlaceTest):
    def check(self, a, b, c, d, answer):
        a, b, c, d = [point(*p) for p in (a, b, c, d)]
        for one, other in (((a, b), (c, d)), ((c, d), (a, b)), ((b, a), (c, d)), ((a, b), (d, c))):
            self.assert_told(meet, true_meet, [*one, *other], answer)

    def test_ordinary_lines(self):
        self.check((0, 0), (4, 4), (0, 4), (4, 0), (2.0, 2.0))
        self.check((0, 0), (1, 1), (10, 0), (9, 1), (5.0, 5.0))
        self.check((0, 0), (1, 0), (7, 1), (7, 2), (7.0, 0.0))
        self.check((0, 0), (3, 1), (0, 1), (1, 0), (0.75, 0.25))
        self.check((0, 0), (1, 2), (1, 0), (0, 1), (1 / 3, 2 / 3))

    def test_at_an_end(self):
        self.check((1, 2), (4, 4), (1, 2), (4, 0), (1.0, 2.0))
        self.check((-1, -2), (4, 4), (4, 4), (8, -0.0), (4.0, 4.0))

    def test_parallel(self):
        self.check((0, 0), (4, 2), (0, 1), (4, 3), -5)
        self.check((0, 0), (4, 2), (8, 5), (0, 1), -5)
        self.check((0, 0), (GREATEST, GREATEST), (0, 1), (LEAST, 1), (1.0, 1.0))
        self.check((0, 0), (GREATEST, GREATEST), (0, LEAST), (GREATEST, GREATEST), (GREATEST, GREATEST))
        self.check((0, GREATEST), (GREATEST, GREATEST), (0, -GREATEST), (LEAST, -GREATEST), -5)

    def test_the_same_line(self):
        self.check((0, 0), (4, 2), (8, 4), (-2, -1), -5)
        self.check((0, 0), (4, 2), (0, 0), (4, 2), -5)

    def test_a_line_that_is_a_point(self):
        self.check((2, 1), (2, 1), (0, 0), (4, 2), -5)
        self.check((9, 1), (9, 1), (0, 0), (4, 2), -5)
        self.check((9, 1), (9, 1), (3, 3), (3, 3), -5)
        self.check((0.0, -0.0), (-0.0, 0.0), (1, 0), (1, 2), -5)
        self.check((GREATEST, 1), (GREATEST, 1), (3, -GREATEST), (3, GREATEST), -5)

    def test_near_together_and_far_apart(self):
        self.check((0, 0), (1, 0), (0, 1), (1, 1 - 2.0 ** -53), (2.0 ** 53, 0.0))
        self.check((1, 1), (ABOVE_ONE, ABOVE_ONE), (1, ABOVE_ONE), (ABOVE_ONE, 1), (1.0, 1.0))
        self.check((0, 0), (LEAST, LEAST), (GREATEST, 0), (0, GREATEST), (GREATEST / 2, GREATEST / 2))
        self.check((0, LEAST), (GREATEST, LEAST), (LEAST, 0), (LEAST, GREATEST), (LEAST, LEAST))

    def test_halves(self):
        self.check((1, -1), (ABOVE_ONE, 1), (0, 0), (1, 0), (1.0, 0.0))
        self.check((ABOVE_ONE, -1), (HALFWAY, 1), (0, 0), (1, 0), (HALFWAY, 0.0))
        self.check((1, -1), (ABOVE_ONE, 1), (0, LEAST), (1, LEAST), (ABOVE_ONE, LEAST))
        self.check((-1, -1), (-ABOVE_ONE, 1), (0, 0), (1, 0), (-1.0, 0.0))

    def test_zero_and_least_numbers(self):
        self.check((-1, -1), (1, 1), (-1, 1), (1, -1), (0.0, 0.0))
        self.check((0, 0), (LEAST, LEAST), (LEAST, 0), (0, LEAST), (0.0, 0.0))
        self.check((0, 0), (LEAST, LEAST), (3 * LEAST, 0), (0, 3 * LEAST), (2 * LEAST, 2 * LEAST))
        self.check((0, 0), (-LEAST, LEAST), (-LEAST, 0), (0, LEAST), (0.0, 0.0))
        self.check((0, 0), (-LEAST, LEAST), (-LEAST, 0), (-2 * LEAST, -LEAST), (0.0, 0.0))

    def test_beyond_the_greatest_number_or_not(self):
        self.check((0, 0), (1, 0), (GREATEST, 1), (GREATEST, 2), (GREATEST, 0.0))
        self.check((0, 0), (1, 0), (0, GREATEST), (GREATEST, GREATEST - TOP_STEP), -7)
        self.check((0, 0), (0, 1), (GREATEST, 0), (GREATEST - TOP_STEP, GREATEST), -7)
        self.check((0, 0), (1, 0), (GREATEST, 2), (GREATEST - TOP_STEP, 6), -7)
        self.check((0, LEAST), (1, LEAST), (GREATEST, 2), (GREATEST - TOP_STEP, 6), (GREATEST, LEAST))
        self.check((0, 0), (0, 1), (2, -GREATEST), (6, -GREATEST + TOP_STEP), -7)
        self.check((LEAST, 0), (LEAST, 1), (2, -GREATEST), (6, -GREATEST + TOP_STEP), (LEAST, -GREATEST))

    def test_against_fractions(self):
        self.check_against_fractions(meet, true_meet, 4, 2, 20)


class FootTest(PlaceTest):
    def check(self, p, a, b, answer):
        k, p, a, b = len(p), point(*p), point(*a), point(*b)
        self.assert_told(foot, true_foot, [k, p, a, b], answer)
        self.assert_told(foot, true_foot, [k, p, b, a], answer)

    def test_in_the_plane(self):
        self.check((3, 4), (0, 0), (1, 0), (3.0, 0.0))
        self.check((0, 4), (0, 0), (1, 1), (2.0, 2.0))
        self.check((-5, 0), (0, 0), (4, 3), (-3.2, -2.4))
        self.check((1, 0), (0, 0), (1, 3), (0.1, 0.3))

    def test_in_space(self):
        self.check((3, 4, 5), (0, 0, 0), (0, 0, 1), (0.0, 0.0, 5.0))
        self.check((3, 0, 0), (0, 0, 0), (1, 1, 1), (1.0, 1.0, 1.0))
        self.check((1, 2, 3), (1, 0, 0), (1, 1, 1), (1.0, 2.5, 2.5))
        self.check((9, 9, 9), (1, 2, 3), (2, 4, 5), (43 / 9, 86 / 9, 95 / 9))

    def test_on_the_line(self):
        self.check((2, 1), (0, 0), (4, 2), (2.0, 1.0))
        self.check((0.1, 0.1, 0.1), (0, 0, 0), (7, 7, 7), (0.1, 0.1, 0.1))
        self.check((4, 2, 1), (0, 0, 0), (4, 2, 1), (4.0, 2.0, 1.0))

    def test_a_is_b(self):
        self.check((3, 4), (1, 1), (1, 1), -5)
        self.check((1, 1, 1), (1, 1, 1), (1, 1, 1), -5)
        self.check((3, 4, 5), (0.0, -0.0, 1), (-0.0, 0.0, 1), -5)
        self.check((GREATEST, GREATEST), (-GREATEST, 1), (-GREATEST, 1), -5)

    def test_near_together_and_far_apart(self):
        self.check((GREATEST, GREATEST), (0, 0), (LEAST, 0), (GREATEST, 0.0))
        self.check((1, GREATEST, LEAST), (0, 0, 0), (1, 0, 0), (1.0, 0.0, 0.0))
        self.check((1, 1), (1, 0), (ABOVE_ONE, 0), (1.0, 0.0))
        self.check((GREATEST, -GREATEST), (0, LEAST), (LEAST, 2 * LEAST), (0.0, 0.0))

    def test_halves(self):
        self.check((1, ABOVE_ONE), (0, 0), (5, 5), (1.0, 1.0))
        self.check((ABOVE_ONE, HALFWAY), (0, 0), (5, 5), (HALFWAY, HALFWAY))
        self.check((-1, -ABOVE_ONE, 7), (0, 0, 0), (5, 5, 0), (-1.0, -1.0, 0.0))

    def test_zero_and_least_numbers(self):
        self.check((1, -1), (0, 0), (1, 1), (0.0, 0.0))
        self.check((LEAST, 0), (0, 0), (1, 1), (0.0, 0.0))
        self.check((-LEAST, 0), (0, 0), (1, 1), (0.0, 0.0))
        self.check((3 * LEAST, 0), (0, 0), (1, 1), (2 * LEAST, 2 * LEAST))
        self.check((LEAST, LEAST, -0.0), (0, 0, 0), (1, 1, 0), (LEAST, LEAST, 0.0))

    def test_beyond_the_greatest_number_or_not(self):
        self.check((GREATEST, GREATEST), (0, 0), (1, 1), (GREATEST, GREATEST))
        self.check((GREATEST, GREATEST), (0, 0), (2, 1), -7)
        self.check((GREATEST, GREATEST, GREATEST), (0, 0, 0), (-2, 1, 2),
                   (-GREATEST / 9 * 2, GREATEST / 9, GREATEST / 9 * 2))
        self.check((GREATEST, GREATEST, GREATEST), (0, 0, 0), (2, 1, 2), -7)

    def test_the_greatest_number_at_its_edge(self):
        # On the line y = x - 2^971 x is half of p's x and y, and 2^970 more.
        self.check((GREATEST, GREATEST), (0, -TOP_STEP), (TOP_STEP, 0), -7)
        self.check((GREATEST, GREATEST - TOP_STEP), (0, -TOP_STEP), (TOP_STEP, 0), (GREATEST, GREATEST - TOP_STEP))
        self.check((-GREATEST, -GREATEST), (0, -TOP_STEP), (TOP_STEP, 0), -7)
        self.check((GREATEST, 0, GREATEST), (GREATEST, 0, 0), (GREATEST, 1, 0), (GREATEST, 0.0, 0.0))

    def test_wrong_k(self):
        for k in (0, 1, 4, 5, 2 ** 64 - 1):
            for of in range(5):
                self.assertEqual(foot(k, [0] * of, [0] * of, [1] * of), [-8])

    def test_against_fractions(self):
        for k in (2, 3):
            self.check_against_fractions(foot, true_foot, 3, k, 21 + k, [k], answers=(0,))


class CentreTest(PlaceTest):
    def check(self, a, b, c, answer):
        for three in itertools.permutations((point(*a), point(*b), point(*c))):
            self.assert_told(centre, true_centre, three, answer)

    def test_ordinary_circles(self):
        self.check((5, 0), (0, 5), (-3, -4), (0.0, 0.0))
        self.check((1, 1), (5, 1), (1, 7), (3.0, 4.0))
        self.check((0, 0), (1, 0), (0.5, 2), (0.5, 0.9375))
        self.check((0, 0), (1, 0), (0, 3), (0.5, 1.5))
        self.check((0, 0), (3, 0), (1, 3), (1.5, 7 / 6))

    def test_on_one_line(self):
        self.check((0, 0), (1, 1), (3, 3), -5)
        self.check((2, 1), (2, 1), (4, 7), -5)
        self.check((2, 1), (2, 1), (2, 1), -5)
        self.check((0.0, 0.0), (-0.0, -0.0), (4, 7), -5)
        self.check((-GREATEST, -GREATEST), (GREATEST, GREATEST), (LEAST, LEAST), -5)

    def test_near_together_and_far_apart(self):
        self.check((0, 0), (LEAST * 2, 0), (0, LEAST * 4), (LEAST, 2 * LEAST))
        self.check((1, 1), (ABOVE_ONE, 1), (1, 3), (1.0, 2.0))
        self.check((0, 0), (GREATEST, 0), (0, LEAST), (GREATEST / 2, 0.0))
        self.check((0, 0), (1, 1), (2, 2 + 2.0 ** -51), (-2.0 ** 52 - 1, 2.0 ** 52 + 2))

    def test_halves(self):
        self.check((1, 0), (ABOVE_ONE, 0), (1, 2), (1.0, 1.0))
        self.check((ABOVE_ONE, 0), (HALFWAY, 0), (ABOVE_ONE, -2), (HALFWAY, -1.0))
        self.check((0, -1), (2, -1), (0, -ABOVE_ONE), (1.0, -1.0))

    def test_zero_and_least_numbers(self):
        self.check((0, 0), (LEAST, 0), (0, 3 * LEAST), (0.0, 2 * LEAST))
        self.check((0, 0), (-LEAST, 0), (0, -3 * LEAST), (0.0, -2 * LEAST))
        self.check((LEAST, 0), (-LEAST, 0), (0, LEAST), (0.0, 0.0))

    def test_beyond_the_greatest_number_or_not(self):
        self.check((-GREATEST, 0), (GREATEST, 0), (0, LEAST), -7)
        self.check((0, -GREATEST), (0, GREATEST), (-1, 0), -7)
        self.check((-GREATEST, 0), (GREATEST, 0), (0, GREATEST), (0.0, 0.0))
        self.check((GREATEST - TOP_STEP, 0), (GREATEST, 0), (GREATEST, 2), (GREATEST - TOP_STEP, 1.0))
        self.check((GREATEST - 2 * TOP_STEP, 0), (GREATEST, 0), (GREATEST, 2), (GREATEST - TOP_STEP, 1.0))
        # A little above the half between the greatest number and the next.
        self.check((0, GREATEST), (2, GREATEST), (1, GREATEST - TOP_STEP), (1.0, GREATEST))

    def test_against_fractions(self):
        self.check_against_fractions(centre, true_centre, 3, 2, 22)


class Centre3Test(PlaceTest):
    def check(self, a, b, c, d, answer):
        for four in itertools.permutations([point(*p) for p in (a, b, c, d)]):
            self.assert_told(centre3, true_centre, four, answer)

    def test_ordinary_spheres(self):
        self.check((3, 0, 0), (0, 3, 0), (0, 0, 3), (-1, -2, -2), (0.0, 0.0, 0.0))
        self.check((1, 1, 1), (5, 1, 1), (1, 7, 1), (1, 1, 9), (3.0, 4.0, 5.0))
        self.check((0, 0, 0), (1, 0, 0), (0, 1, 0), (1, 1, 3), (0.5, 0.5, 1.5))
        self.check((0, 0, 0), (1, 0, 0), (0, 1, 0), (0.5, 0.5, 0.75), (0.5, 0.5, 1 / 24))

    def test_in_one_plane(self):
        self.check((0, 0, 1), (1, 0, 1), (0, 1, 1), (5, 7, 1), -5)
        self.check((1, 0, 0), (0, 1, 0), (-1, 0, 0), (0, -1, 0), -5)
        self.check((0, 0, 0), (1, 2, 3), (2, 4, 6), (5, 0, 1), -5)
        self.check((1, 2, 3), (1, 2, 3), (2, 0, 6), (5, 0, 1), -5)
        self.check((0.0, 2, 3), (-0.0, 2, 3), (2, 0, 6), (5, 0, 1), -5)
        self.check((GREATEST, 0, 0), (-GREATEST, 0, 0), (0, GREATEST, 0), (LEAST, LEAST, 0), -5)

    def test_near_together_and_far_apart(self):
        self.check((0, 0, 0), (2 * LEAST, 0, 0), (0, 4 * LEAST, 0), (0, 0, 6 * LEAST), (LEAST, 2 * LEAST, 3 * LEAST))
        self.check((0, 0, 0), (GREATEST, 0, 0), (0, 2, 0), (0, 0, 2 * LEAST), (GREATEST / 2, 1.0, LEAST))

    def test_halves(self):
        self.check((1, 0, 0), (ABOVE_ONE, 0, 0), (1, 2, 0), (1, 0, -2), (1.0, 1.0, -1.0))
        self.check((0, ABOVE_ONE, 0), (0, HALFWAY, 0), (2, ABOVE_ONE, 0), (0, ABOVE_ONE, 2), (1.0, HALFWAY, 1.0))
        self.check((0, 0, -1), (0, 0, -ABOVE_ONE), (2, 0, -1), (0, 2, -1), (1.0, 1.0, -1.0))

    def test_zero_and_least_numbers(self):
        self.check((0, 0, 0), (LEAST, 0, 0), (0, -LEAST, 0), (0, 0, 3 * LEAST), (0.0, 0.0, 2 * LEAST))

    def test_beyond_the_greatest_number_or_not(self):
        self.check((GREATEST, 0, 0), (-GREATEST, 0, 0), (0, GREATEST, 0), (0, 0, LEAST), -7)
        self.check((GREATEST, 0, 0), (-GREATEST, 0, 0), (0, GREATEST, 0), (0, 0, GREATEST), (0.0, 0.0, 0.0))
        self.check((GREATEST, 0, 0), (GREATEST - 2 * TOP_STEP, 0, 0), (GREATEST, 2, 0), (GREATEST, 0, 2),
                   (GREATEST - TOP_STEP, 1.0, 1.0))

    def test_against_fractions(self):
        self.check_against_fractions(centre3, true_centre, 4, 3, 32)


class CuttingTest(PlaceTest):
    def check(self, plane, d, e, answer):
        d, e = point(*d), point(*e)
        for three in itertools.permutations([point(*p) for p in plane]):
            self.assert_told(cutting, true_cutting, [*three, d, e], answer)
            self.assert_told(cutting, true_cutting, [*three, e, d], answer)

    LEVEL = ((0, 0, 0), (1, 0, 0), (0, 1, 0))
    SLANTING = ((3, 0, 0), (0, 3, 0), (0, 0, 3))

    def test_ordinary_lines(self):
        self.check(self.LEVEL, (5, 7, 2), (5, 7, 1), (5.0, 7.0, 0.0))
        self.check(self.LEVEL, (0, 0, 1), (1, 2, 2), (-1.0, -2.0, 0.0))
        self.check(self.LEVEL, (0, 0, 1), (1, 2, -2), (1 / 3, 2 / 3, 0.0))
        self.check(self.SLANTING, (0, 0, 0), (1, 1, 1), (1.0, 1.0, 1.0))
        self.check(self.SLANTING, (0, 0, 0), (1, 2, 4), (3 / 7, 6 / 7, 12 / 7))

    def test_an_end_in_the_plane(self):
        self.check(self.LEVEL, (5, 7, 0), (5, 9, 1), (5.0, 7.0, 0.0))
        self.check(self.SLANTING, (3, 0, 0), (9, 9, 1), (3.0, 0.0, 0.0))

    def test_no_plane(self):
        self.check(((0, 0, 0), (1, 1, 1), (3, 3, 3)), (0, 0, 1), (0, 0, 2), -5)
        self.check(((0, 0, 0), (0, 0, 0), (3, 1, 3)), (0, 0, 1), (0, 0, 2), -5)
        self.check(((1, 2, 3), (1, 2, 3), (1, 2, 3)), (0, 0, 1), (0, 0, 2), -5)
        self.check(((0.0, 0, 0), (-0.0, 0, 0), (GREATEST, 1, 3)), (0, 0, 1), (0, GREATEST, 2), -5)

    def test_a_parallel_line(self):
        self.check(self.LEVEL, (0, 0, 1), (5, 7, 1), -5)
        self.check(self.SLANTING, (0, 0, 0), (1, 1, -2), -5)
        self.check(self.LEVEL, (GREATEST, 0, GREATEST), (-GREATEST, 1, GREATEST), -5)

    def test_a_line_in_the_plane(self):
        self.check(self.LEVEL, (0, 0, 0), (5, 7, 0), -5)
        self.check(self.SLANTING, (3, 0, 0), (1, 1, 1), -5)

    def test_d_is_e(self):
        self.check(self.LEVEL, (0, 0, 1), (0, 0, 1), -5)
        self.check(self.LEVEL, (0, 0, 0), (0, 0, 0), -5)
        self.check(self.SLANTING, (-0.0, 0, 1), (0.0, 0, 1), -5)

    def test_near_together_and_far_apart(self):
        self.check(self.LEVEL, (GREATEST, 0, LEAST), (GREATEST, 0, 2 * LEAST), (GREATEST, 0.0, 0.0))
        self.check(self.LEVEL, (1, 1, LEAST), (1, 1, GREATEST), (1.0, 1.0, 0.0))
        self.check(((0, 0, LEAST), (GREATEST, 0, LEAST), (0, LEAST, LEAST)), (1, 2, 3), (1, 2, 4), (1.0, 2.0, LEAST))
        self.check(self.LEVEL, (0, 0, 1), (1, -1, 1 - 2.0 ** -53), (2.0 ** 53, -2.0 ** 53, 0.0))

    def test_halves(self):
        self.check(self.LEVEL, (1, ABOVE_ONE, -1), (ABOVE_ONE, HALFWAY, 1), (1.0, HALFWAY, 0.0))
        self.check(self.LEVEL, (-1, 0, -1), (-ABOVE_ONE, 0, 1), (-1.0, 0.0, 0.0))
        level = ((0, 0, LEAST), (1, 0, LEAST), (0, 1, LEAST))
        self.check(level, (1, ABOVE_ONE, -1), (ABOVE_ONE, HALFWAY, 1), (ABOVE_ONE, HALFWAY, LEAST))

    def test_zero_and_least_numbers(self):
        self.check(self.LEVEL, (LEAST, 0, -1), (0, 3 * LEAST, 1), (0.0, 2 * LEAST, 0.0))
        self.check(self.LEVEL, (-LEAST, 0, -1), (0, -3 * LEAST, 1), (0.0, -2 * LEAST, 0.0))
        self.check(self.LEVEL, (-1, 1, -1), (1, -1, 1), (0.0, 0.0, 0.0))

    def test_beyond_the_greatest_number_or_not(self):
        self.check(self.LEVEL, (GREATEST, 1, 1), (GREATEST, 1, 2), (GREATEST, 1.0, 0.0))
        self.check(self.LEVEL, (GREATEST, 1, 2), (GREATEST - TOP_STEP, 1, 6), -7)
        level = ((0, 0, LEAST), (1, 0, LEAST), (0, 1, LEAST))
        self.check(level, (GREATEST, 1, 2), (GREATEST - TOP_STEP, 1, 6), (GREATEST, 1.0, LEAST))
        self.check(self.LEVEL, (1, 0, GREATEST), (1, GREATEST, GREATEST - TOP_STEP), -7)
        steep = ((0, 0, 0), (0, 1, 0), (1, 0, GREATEST))
        self.check(steep, (2, 0, 0), (2, 0, 1), -7)
        self.check(steep, (-1, 0, 0), (-1, 0, 1), (-1.0, 0.0, -GREATEST))

    def test_against_fractions(self):
        self.check_against_fractions(cutting, true_cutting, 5, 3, 23)


class NormalTest(PlaceTest):
    def check(self, a, b, c, answer):
        a, b, c = point(*a), point(*b), point(*c)
        self.assert_told(normal, true_normal, [a, b, c], answer)
        self.assert_told(normal, true_normal, [b, c, a], answer)
        back = tuple(0.0 - x for x in answer) if isinstance(answer, tuple) else answer
        self.assert_told(normal, true_normal, [a, c, b], back)

    def test_each_axis(self):
        self.check((0, 0, 0), (1, 0, 0), (0, 2, 0), (0.0, 0.0, 2.0))
        self.check((0, 0, 0), (0, 1, 0), (0, 0, 3), (3.0, 0.0, 0.0))
        self.check((0, 0, 0), (0, 0, 1), (4, 0, 0), (0.0, 4.0, 0.0))

    def test_ordinary_points(self):
        self.check((1, 1, 1), (2, 3, 4), (5, 4, 2), (-7.0, 11.0, -5.0))
        self.check((0, 0, 0), (1, 2, 3), (4, 5, 6), (-3.0, 6.0, -3.0))

    def test_on_one_line(self):
        self.check((0, 0, 0), (1, 2, 3), (2, 4, 6), (0.0, 0.0, 0.0))
        self.check((1, 2, 3), (1, 2, 3), (2, 0, 6), (0.0, 0.0, 0.0))
        self.check((GREATEST, 0, 0), (-GREATEST, 0, 0), (1, -0.0, 0), (0.0, 0.0, 0.0))

    def test_near_together_and_far_apart(self):
        self.check((1, 1, 1), (ABOVE_ONE, 1, 1), (1, ABOVE_ONE, 1), (0.0, 0.0, 2.0 ** -104))
        self.check((0, 0, 0), (GREATEST, 1, 0), (LEAST, 1, 0), (0.0, 0.0, GREATEST))
        self.check((1e200, 1e200, 0), (1e200, 1e200, 1), (1e200, 1e200 + 2.0 ** 613, 0), (-2.0 ** 613, 0.0, 0.0))

    def test_halves(self):
        self.check((0, 0, 0), (3, 0, 0), (0, 3002399751580331, 0), (0.0, 0.0, 2.0 ** 53))
        self.check((0, 0, 0), (0, 5, 0), (0, 0, 1801439850948199), (2.0 ** 53 + 4, 0.0, 0.0))

    def test_least_numbers(self):
        self.check((0, 0, 0), (LEAST, 0, 0), (0, LEAST, 0), (0.0, 0.0, 0.0))
        self.check((0, 0, 0), (LEAST, 0, 0), (0, 0.5, 0), (0.0, 0.0, 0.0))
        self.check((0, 0, 0), (3 * LEAST, 0, 0), (0, 0.5, 0), (0.0, 0.0, 2 * LEAST))

    def test_beyond_the_greatest_number_or_not(self):
        self.check((0, 0, 0), (GREATEST, 0, 0), (0, 1, 0), (0.0, 0.0, GREATEST))
        self.check((0, 0, 0), (GREATEST, -2.0 ** 500, 0), (2.0 ** 470, 1, 0), -7)
        self.check((0, 0, 0), (GREATEST, -2.0 ** 500, 0), (2.0 ** 469, 1, 0), (0.0, 0.0, GREATEST))
        for axes in itertools.permutations(range(3)):
            b, c = [[p[axis] for axis in axes] for p in ((GREATEST, 0, 0), (0, 2, 0))]
            self.check((0, 0, 0), b, c, -7)

    def test_against_fractions(self):
        self.check_against_fractions(normal, true_normal, 3, 3, 24, answers=(0, -7))
