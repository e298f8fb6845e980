"""Point 17: area and heart."""

import random
import unittest
from fractions import Fraction

from exactplaces.exact import area, heart
from helper import ABOVE_ONE, EXTREMES, GREATEST, LEAST, NOT_FINITE, SMALL, bits, joined, near_number
from truth import answer_of, numbers_of, values_of

ONE = bits(1.0)
TRIANGLE = ((0, 0), (6, 0), (0, 3))


def terms(loop):
    values = values_of(loop)
    points = list(zip(values[::2], values[1::2]))
    return [(p, q, p[0] * q[1] - p[1] * q[0]) for p, q in zip(points, points[1:] + points[:1])]


def true_area(loop):
    return answer_of([sum(term for p, q, term in terms(loop)) / Fraction(2)])


def true_heart(loop):
    total = 3 * sum(term for p, q, term in terms(loop))
    if total == 0:
        return [-5]
    return answer_of([Fraction(sum((p[axis] + q[axis]) * term for p, q, term in terms(loop))) / total
                      for axis in (0, 1)])


def box(x, y, right, top):
    return ((x, y), (right, y), (right, top), (x, top))


def random_loops(source, count):
    for number in (near_number, lambda s: bits(s.choice(EXTREMES)), lambda s: bits(s.choice(SMALL))):
        for _ in range(count):
            yield [number(source) for _ in range(2 * source.randrange(3, 9))]


class AreaTest(unittest.TestCase):
    def check(self, loop, answer):
        loop = list(loop)
        for start in range(len(loop)):
            numbers = joined(loop[start:] + loop[:start])
            self.assertEqual(true_area(numbers), [-7] if answer is None else [0, bits(answer)])
            self.assertEqual(area(numbers), true_area(numbers))
            back = joined((loop[start:] + loop[:start])[::-1])
            self.assertEqual(area(back), [-7] if answer is None else [0, bits(-answer + 0.0)])

    def test_either_way_round(self):
        self.check(TRIANGLE, 9.0)
        self.check(box(1, 2, 4, 7), 15.0)
        self.check(((0, 0), (4, 0), (4, 4), (2, 1), (0, 4)), 10.0)
        self.check(((0, 0), (1, 0), (0, 1)), 0.5)

    def test_loops_that_cross_themselves(self):
        self.check(((0, 0), (4, 4), (4, 0), (0, 4)), 0.0)
        self.check(box(0, 0, 2, 2) * 3, 12.0)

    def test_zero(self):
        self.check(((0, 0), (2, 2), (5, 5)), 0.0)
        self.check(((-0.0, -0.0),) * 3, 0.0)
        self.check(((GREATEST, LEAST), (-GREATEST, -LEAST), (0, 0)), 0.0)

    def test_where_rounding_at_each_step_fails(self):
        self.check(((1e16, 1e16), (1e16 + 2, 1e16), (1e16, 1e16 + 2)), 2.0)
        self.check(((GREATEST, GREATEST), (GREATEST, GREATEST - 2.0 ** 971), (0, 0)), None)
        self.check(((1e300, 1e300), (1e300, 1e300), (0, 0)), 0.0)
        self.check(((2.0 ** 600, 2.0 ** 600), (2.0 ** 600 + 2.0 ** 548, 2.0 ** 600 + 2.0 ** 548), (1, 1 + 2.0 ** -52)),
                   2.0 ** 495)

    def test_halves(self):
        self.check(box(0, 0, 3, 3002399751580331), 2.0 ** 53)
        self.check(box(0, 0, 5, 1801439850948199), 2.0 ** 53 + 4)

    def test_least_numbers(self):
        self.check(((0, 0), (2 * LEAST, 0), (0, 1)), LEAST)
        self.check(((0, 0), (LEAST, 0), (0, 1)), 0.0)
        self.check(((0, 0), (3 * LEAST, 0), (0, 1)), 2 * LEAST)
        self.check(((0, 0), (LEAST, 0), (LEAST, LEAST)), 0.0)

    def test_beyond_the_greatest_number_or_not(self):
        self.check(((0, 0), (GREATEST, 0), (0, 2)), GREATEST)
        self.check(((0, 0), (GREATEST, 0), (0, 2 + 2.0 ** -51)), None)
        self.check(box(0, 0, 2.0 ** 512, 2.0 ** 512), None)
        self.check(box(0, 0, 2.0 ** 512, 2.0 ** 511), 2.0 ** 1023)
        self.check(box(-GREATEST, -GREATEST, GREATEST, GREATEST), None)

    def test_against_fractions(self):
        for loop in random_loops(random.Random(17), 300):
            self.assertEqual(area(loop), true_area(loop), loop)


class HeartTest(unittest.TestCase):
    def check(self, loop, answer):
        loop = list(loop)
        expected = [0] + numbers_of(answer) if isinstance(answer, tuple) else [answer]
        for start in range(len(loop)):
            shifted = loop[start:] + loop[:start]
            self.assertEqual(true_heart(joined(shifted)), expected)
            self.assertEqual(heart(joined(shifted)), expected)
            self.assertEqual(heart(joined(shifted[::-1])), expected)

    def test_either_way_round(self):
        self.check(TRIANGLE, (2.0, 1.0))
        self.check(box(1, 2, 4, 7), (2.5, 4.5))
        self.check(box(-4, -7, -1, -2), (-2.5, -4.5))
        self.check(((0, 0), (1, 0), (0, 1)), (1 / 3, 1 / 3))
        self.check(((0, 0), (6, 0), (6, 2), (2, 2), (2, 6), (0, 6)), (2.2, 2.2))

    def test_loops_that_cross_themselves(self):
        self.check(box(0, 0, 2, 2) * 3, (1.0, 1.0))
        self.check(((0, 0), (6, 6), (6, 0), (0, 3)), (6.0, 3.0))

    def test_nothing_to_divide_by(self):
        self.check(((0, 0), (2, 2), (5, 5)), -5)
        self.check(((0, 0), (4, 4), (4, 0), (0, 4)), -5)
        self.check(((3, 4),) * 3, -5)
        self.check(((0.0, -0.0), (1, 0.0), (2, -0.0)), -5)
        self.check(((GREATEST, GREATEST), (-GREATEST, -GREATEST), (1, 1)), -5)

    def test_nearly_nothing_to_divide_by(self):
        self.check(((0, 0), (LEAST, 0), (0, LEAST)), (0.0, 0.0))
        self.check(((0, 0), (3 * LEAST, 0), (0, 3 * LEAST)), (LEAST, LEAST))
        self.check(((GREATEST, GREATEST), (-GREATEST, -GREATEST), (1, ABOVE_ONE)), (1 / 3, ABOVE_ONE / 3))

    def test_halves(self):
        self.check(box(1, 0, ABOVE_ONE, 2), (1.0, 1.0))
        self.check(box(ABOVE_ONE, 0, 1 + 2.0 ** -51, 2), (1 + 2.0 ** -51, 1.0))
        self.check(box(0, -ABOVE_ONE, 2, -1), (1.0, -1.0))

    def test_a_middle_that_is_zero(self):
        self.check(box(-1, -3, 1, 3), (0.0, 0.0))
        self.check(box(-LEAST, 0, 0, 2), (0.0, 1.0))
        self.check(box(0, 0, 3 * LEAST, 2), (2 * LEAST, 1.0))

    def test_beyond_the_greatest_number_or_not(self):
        self.check(box(GREATEST - 2.0 ** 971, 0, GREATEST, 2), (GREATEST - 2.0 ** 971, 1.0))
        self.check(box(-GREATEST, -GREATEST, GREATEST, GREATEST), (0.0, 0.0))
        far = ((0, 0), (GREATEST, GREATEST), (GREATEST, 0), (0, GREATEST - 2.0 ** 971))
        self.check(far, -7)
        self.check([(y, x) for x, y in far], -7)

    def test_against_fractions(self):
        seen = set()
        for loop in random_loops(random.Random(27), 300):
            answer = true_heart(loop)
            seen.add(answer[0])
            self.assertEqual(heart(loop), answer, loop)
        self.assertEqual(seen, {0, -5, -7})


class CountsTest(unittest.TestCase):
    def test_longest_and_shortest_loops(self):
        corners = [(x, 0) for x in range(256)] + [(255 - x, 1) for x in range(256)]
        self.assertEqual(area(joined(corners)), [0, bits(255.0)])
        self.assertEqual(heart(joined(corners)), [0, bits(127.5), bits(0.5)])
        self.assertEqual(area(joined(corners + [(0, 1)])), [-8])
        self.assertEqual(heart(joined(corners + [(0, 1)])), [-8])
        for count in (0, 1, 2):
            self.assertEqual(area(joined(TRIANGLE[:count])), [-8])
            self.assertEqual(heart(joined(TRIANGLE[:count])), [-8])

    def test_lists_that_end_in_part(self):
        for count in (1, 5, 7, 1023, 1025):
            self.assertEqual(area([ONE] * count), [-8])
            self.assertEqual(heart([ONE] * count), [-8])

    def test_wrong_comes_first(self):
        for wrong in NOT_FINITE:
            self.assertEqual(heart([ONE] * 6 + [wrong, ONE]), [-8])
            self.assertEqual(heart([ONE] * 7 + [wrong]), [-8])
            self.assertEqual(area(numbers_of([GREATEST, 0, 0, GREATEST, -GREATEST, 0]) + [ONE, wrong]), [-8])
