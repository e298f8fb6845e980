"""Point 18: mass and heart3."""

import math
import random
import unittest
from fractions import Fraction

from exactplaces.exact import heart3, mass
from helper import (ABOVE_ONE, EXTREMES, GREATEST, LEAST, NOT_FINITE, SMALL, any_number, bits, joined,
                    near_number)
from truth import answer_of, inner, numbers_of, outer, values_of

ONE = bits(1.0)
CORNER = ((0, 0, 0), (1, 0, 0), (0, 1, 0), (0, 0, 1))
CORNER_SKIN = [0, 2, 1, 0, 1, 3, 0, 3, 2, 1, 2, 3]
BOX_SKIN = [0, 3, 2, 0, 2, 1, 4, 5, 6, 4, 6, 7, 0, 1, 5, 0, 5, 4, 2, 3, 7, 2, 7, 6, 1, 2, 6, 1, 6, 5, 0, 4, 7, 0, 7, 3]


def box(low, high):
    (x, y, z), (right, back, top) = low, high
    floor = ((x, y), (right, y), (right, back), (x, back))
    return [(*p, z) for p in floor] + [(*p, top) for p in floor]


# Word for word as the document has it.
def true_sums(points, triangles):
    values = values_of(points)
    points = [values[i:i + 3] for i in range(0, len(values), 3)]
    sums = [Fraction(0)] * 10
    for i in range(0, len(triangles), 3):
        a, b, c = [points[place] for place in triangles[i:i + 3]]
        d = inner(a, outer(b, c))
        ten = [d / Fraction(6)]
        ten += [d * (a[i] + b[i] + c[i]) / Fraction(24) for i in range(3)]
        ten += [d * (a[i] * a[i] + b[i] * b[i] + c[i] * c[i] + a[i] * b[i] + b[i] * c[i] + c[i] * a[i])
                / Fraction(60) for i in range(3)]
        ten += [d * (2 * a[i] * a[j] + 2 * b[i] * b[j] + 2 * c[i] * c[j] + a[i] * b[j] + b[i] * a[j]
                     + b[i] * c[j] + c[i] * b[j] + c[i] * a[j] + a[i] * c[j]) / Fraction(120)
                for i, j in ((0, 1), (1, 2), (2, 0))]
        sums = [x + y for x, y in zip(sums, ten)]
    return sums


def true_mass(points, triangles):
    return answer_of(true_sums(points, triangles))


def true_heart3(points, triangles):
    sums = true_sums(points, triangles)
    return [-5] if sums[0] == 0 else answer_of([x / sums[0] for x in sums[1:4]])


def random_solids(source, count):
    edge = lambda s: bits(s.choice(EXTREMES))
    small = lambda s: bits(s.choice(SMALL))
    for number in (near_number, any_number, edge, small):
        for _ in range(count):
            points = source.randrange(1, 8)
            places = [source.randrange(points) for _ in range(3 * source.randrange(1, 8))]
            yield [number(source) for _ in range(3 * points)], places


class MassTest(unittest.TestCase):
    def check(self, points, triangles, answer):
        numbers = joined(points)
        expected = [0] + numbers_of(answer) if isinstance(answer, list) else [answer]
        self.assertEqual(true_mass(numbers, triangles), expected)
        self.assertEqual(mass(numbers, triangles), expected)

    def test_a_corner(self):
        self.check(CORNER, CORNER_SKIN, [1 / 6] + [1 / 24] * 3 + [1 / 60] * 3 + [1 / 120] * 3)

    def test_a_box_all_ten_in_their_order(self):
        self.check(box((1, 2, 3), (2, 4, 6)), BOX_SKIN, [6, 9, 18, 27, 14, 56, 126, 27, 81, 40.5])

    def test_the_skin_inside_out(self):
        self.check(box((1, 2, 3), (2, 4, 6)), BOX_SKIN[::-1], [-6, -9, -18, -27, -14, -56, -126, -27, -81, -40.5])

    def test_a_box_below_0(self):
        self.check(box((-2, -4, -6), (-1, -2, -3)), BOX_SKIN, [6, -9, -18, -27, 14, 56, 126, 27, 81, 40.5])

    def test_one_triangle(self):
        self.check(((1, 0, 0), (0, 2, 0), (0, 0, 3)), [0, 1, 2], [1, 0.25, 0.5, 0.75, 0.1, 0.4, 0.9, 0.1, 0.3, 0.15])
        self.check(((1, 2, 3),), [0, 0, 0], [0.0] * 10)
        self.check(((0, 0, 0), (-0.0, 1, 0)), [0, 1, 0], [0.0] * 10)

    def test_triangles_twice_and_points_unused(self):
        self.check(((9, 9, 9), (1, 0, 0), (0, 2, 0), (0, 0, 3)), [1, 2, 3] * 2,
                   [2, 0.5, 1, 1.5, 0.2, 0.8, 1.8, 0.2, 0.6, 0.3])

    def test_what_cancels_out_is_plus_0(self):
        self.check(box((-1, -1, -1), (1, 1, 1)), BOX_SKIN, [8, 0.0, 0.0, 0.0, 8 / 3, 8 / 3, 8 / 3, 0.0, 0.0, 0.0])
        self.check(CORNER[1:], [0, 1, 2, 0, 2, 1], [0.0] * 10)

    def test_where_rounding_at_each_step_fails(self):
        far = box((2.0 ** 52, 2.0 ** 52, 2.0 ** 52), (2.0 ** 52 + 1, 2.0 ** 52 + 1, 2.0 ** 52 + 1))
        self.assertEqual(mass(joined(far), BOX_SKIN), true_mass(joined(far), BOX_SKIN))
        self.assertEqual(mass(joined(far), BOX_SKIN)[1], ONE)

    def test_halves(self):
        prism = box((0, 0, 0), (3, 3002399751580331, 1))
        self.assertEqual(mass(joined(prism), BOX_SKIN)[1], bits(2.0 ** 53))
        prism = box((0, 0, 0), (5, 1801439850948199, 1))
        self.assertEqual(mass(joined(prism), BOX_SKIN)[1], bits(2.0 ** 53 + 4))

    def test_least_numbers(self):
        self.check(((LEAST, 0, 0), (0, LEAST, 0), (0, 0, LEAST)), [0, 1, 2], [0.0] * 10)
        self.check(((6 * LEAST, 0, 0), (0, 1, 0), (0, 0, 1)), [0, 1, 2],
                   [LEAST, 0.0, 0.0, 0.0, 0.0, 0.0, 0.0, 0.0, 0.0, 0.0])
        self.check(((9 * LEAST, 0, 0), (0, 1, 0), (0, 0, 1)), [0, 1, 2],
                   [2 * LEAST, 0.0, 0.0, 0.0, 0.0, 0.0, 0.0, 0.0, 0.0, 0.0])

    def test_beyond_the_greatest_number_or_not(self):
        self.check(((2.0 ** 204, 0, 0), (0, 2.0 ** 204, 0), (0, 0, 2.0 ** 204)), [0, 1, 2],
                   [2.0 ** 612 / 6] + [2.0 ** 816 / 24] * 3 + [2.0 ** 1020 / 60] * 3 + [2.0 ** 1020 / 120] * 3)
        self.check(((2.0 ** 205, 0, 0), (0, 2.0 ** 205, 0), (0, 0, 2.0 ** 205)), [0, 1, 2],
                   [2.0 ** 615 / 6] + [2.0 ** 820 / 24] * 3 + [2.0 ** 1019 / 60 * 64] * 3
                   + [2.0 ** 1019 / 120 * 64] * 3)
        self.check(((2.0 ** 206, 0, 0), (0, 2.0 ** 206, 0), (0, 0, 2.0 ** 206)), [0, 1, 2], -7)
        self.check(((GREATEST, 0, 0), (0, 6, 0), (0, 0, 1)), [0, 1, 2], -7)
        self.check(((GREATEST, GREATEST, 0), (GREATEST, 0, 1), (GREATEST, GREATEST, 1)), [0, 1, 2], -7)

    def test_one_of_ten_that_cannot_be_told(self):
        for places in ([0, 1, 2], [1, 2, 0], [2, 0, 1]):
            points = [(0, 0, 0)] * 3
            for value, place in zip((2.0 ** 600, 1, 1), places):
                points[place] = tuple(value if axis == place else 0 for axis in range(3))
            self.check(points, [0, 1, 2], -7)

    def test_the_greatest_number(self):
        # x x x y z = 4 GREATEST, of which 15 triangles have a 60th each; likewise 4 times what comes on top.
        def with_more(more):
            z, top = math.ldexp(GREATEST, -1098), math.ldexp(more, -1098)
            return ((2.0 ** 500, 0, 0), (0, 2.0 ** -400, 0), (0, 0, z), (0, 0, top))

        def told_or_not(more, triangles):
            answer = mass(joined(with_more(more)), triangles)
            self.assertEqual(answer, true_mass(joined(with_more(more)), triangles))
            return answer

        self.assertEqual(told_or_not(0, [0, 1, 2] * 15)[5], bits(GREATEST))
        self.assertEqual(told_or_not(0, [0, 1, 2] * 16), [-7])
        self.assertEqual(told_or_not(2.0 ** 970, ([0, 1, 2] + [0, 1, 3]) * 15), [-7])
        self.assertEqual(told_or_not(2.0 ** 970 - 2.0 ** 918, ([0, 1, 2] + [0, 1, 3]) * 15)[5], bits(GREATEST))
        self.assertEqual(told_or_not(0, [0, 2, 1] * 15)[5], bits(-GREATEST))
        self.assertEqual(told_or_not(2.0 ** 970, ([0, 2, 1] + [0, 3, 1]) * 15), [-7])

    def test_against_fractions(self):
        seen = set()
        for points, places in random_solids(random.Random(18), 100):
            answer = true_mass(points, places)
            seen.add(answer[0])
            self.assertEqual(mass(points, places), answer, (points, places))
        self.assertEqual(seen, {0, -7})


class Heart3Test(unittest.TestCase):
    def check(self, points, triangles, answer):
        numbers = joined(points)
        expected = [0] + numbers_of(answer) if isinstance(answer, tuple) else [answer]
        self.assertEqual(true_heart3(numbers, triangles), expected)
        self.assertEqual(heart3(numbers, triangles), expected)
        back = triangles[::-1]
        self.assertEqual(heart3(numbers, back), expected)

    def test_solids(self):
        self.check(CORNER, CORNER_SKIN, (0.25, 0.25, 0.25))
        self.check(box((1, 2, 3), (2, 4, 6)), BOX_SKIN, (1.5, 3, 4.5))
        self.check(box((-2, -4, -6), (-1, -2, -3)), BOX_SKIN, (-1.5, -3, -4.5))
        self.check(((1, 0, 0), (0, 2, 0), (0, 0, 3)), [0, 1, 2], (0.25, 0.5, 0.75))
        self.check(((1, 1, 0), (0, 1, 1), (4, 0, 1)), [0, 1, 2], (1.25, 0.5, 0.5))

    def test_a_middle_that_is_zero(self):
        self.check(box((-1, -2, -3), (1, 2, 3)), BOX_SKIN, (0.0, 0.0, 0.0))
        self.check(box((-1, -2, 0), (1, 2, 2 * LEAST)), BOX_SKIN, (0.0, 0.0, LEAST))
        self.check(box((0, 0, 0), (LEAST, 3 * LEAST, 5 * LEAST)), BOX_SKIN, (0.0, 2 * LEAST, 2 * LEAST))
        self.check(box((-LEAST, 0, 0), (0, 3 * LEAST, 5 * LEAST)), BOX_SKIN, (0.0, 2 * LEAST, 2 * LEAST))

    def test_halves(self):
        self.check(box((1, ABOVE_ONE, 0), (ABOVE_ONE, 1 + 2.0 ** -51, 2)), BOX_SKIN, (1.0, 1 + 2.0 ** -51, 1.0))
        self.check(box((-ABOVE_ONE, 0, 0), (-1, 2, 2)), BOX_SKIN, (-1.0, 1.0, 1.0))

    def test_nothing_to_divide_by(self):
        self.check(((1, 2, 3),), [0, 0, 0], -5)
        self.check(CORNER, [0, 1, 2], -5)
        self.check(CORNER[1:], [0, 1, 2, 0, 2, 1], -5)
        self.check(box((1, 2, 3), (2, 4, 3)), BOX_SKIN, -5)
        self.check(((GREATEST, 1, 1), (GREATEST, 1, 1), (1, GREATEST, 1)), [0, 1, 2], -5)

    def test_zero_volume_with_moments_left(self):
        points = ((1, 0, 0), (0, 1, 0), (0, 0, 1), (-1, 0, 0), (0, 2, 0), (0, 0, 0.5))
        self.check(points, [0, 1, 2, 3, 4, 5], -5)
        great = ((GREATEST, 0, 0), (0, 1, 0), (0, 0, 1), (-GREATEST, 0, 0), (0, 2, 0), (0, 0, 0.5))
        self.check(great, [0, 1, 2, 3, 4, 5], -5)

    def test_beyond_the_greatest_number_or_not(self):
        self.check(((GREATEST, 0, 0), (0, GREATEST, 0), (0, 0, GREATEST)), [0, 1, 2], (GREATEST / 4,) * 3)
        self.check(((GREATEST, GREATEST, 0), (GREATEST, 0, 1), (GREATEST, GREATEST, 1)), [0, 1, 2],
                   (GREATEST * 0.75, GREATEST / 2, 0.5))
        self.check(box((-GREATEST, 0, 0), (GREATEST, 2, 2)), BOX_SKIN, (0.0, 1.0, 1.0))
        points = ((1, 0, 0), (0, 1, 0), (0, 0, 1), (GREATEST, 0, 0), (0, -1, 0), (0, 0, 2.0 ** -1024))
        self.check(points, [0, 1, 2, 3, 4, 5], -7)

    def test_the_greatest_number(self):
        slab = box((GREATEST - 2.0 ** 971, 0, 0), (GREATEST, 2, 2))
        self.check(slab, BOX_SKIN, (GREATEST - 2.0 ** 971, 1.0, 1.0))
        slab = box((0, GREATEST - 3 * 2.0 ** 971, 0), (2, GREATEST, 2))
        self.check(slab, BOX_SKIN, (1.0, GREATEST - 2.0 ** 971, 1.0))

    def test_against_fractions(self):
        seen = set()
        for points, places in random_solids(random.Random(28), 150):
            answer = true_heart3(points, places)
            seen.add(answer[0])
            self.assertEqual(heart3(points, places), answer, (points, places))
        self.assertLessEqual({0, -5}, seen)


class CountsTest(unittest.TestCase):
    def check(self, points, triangles, wrong):
        for call in (mass, heart3):
            answer = call(points, triangles)
            self.assertEqual(answer == [-8], wrong, (call.__name__, len(points), len(triangles)))

    def test_how_many_points(self):
        self.check([], [0, 0, 0], True)
        self.check([], [], True)
        self.check([ONE] * 3, [0, 0, 0], False)
        self.check([ONE] * 3 * 4096, [0, 4095, 1], False)
        self.check([ONE] * 3 * 4097, [0, 4095, 1], True)

    def test_how_many_triangles(self):
        points = numbers_of([1, 0, 0, 0, 1, 0, 0, 0, 1])
        self.check(points, [], True)
        self.check(points, [0, 1, 2], False)
        self.check(points, [0, 1, 2] * 2048, False)
        self.check(points, [0, 1, 2] * 2049, True)
        self.assertEqual(mass(points, [0, 1, 2] * 2048)[1], bits(2048 / 6))

    def test_lists_that_end_in_part(self):
        for count in (1, 2, 4, 5, 3 * 4096 - 1, 3 * 4096 + 1):
            self.check([ONE] * count, [0, 0, 0], True)
        for count in (1, 2, 4, 5, 3 * 2048 - 1, 3 * 2048 + 1):
            self.check([ONE] * 9, [0] * count, True)

    def test_places_of_no_point(self):
        for count in (1, 2, 4096):
            for place in (count, count + 1, 2 ** 63, 2 ** 64 - 1):
                for at in range(6):
                    places = [0, count - 1, 0, count - 1, 0, 0]
                    self.check([ONE] * 3 * count, places, False)
                    places[at] = place
                    self.check([ONE] * 3 * count, places, True)

    def test_a_wrong_number_in_a_point_unused(self):
        for wrong in NOT_FINITE:
            self.check([ONE] * 9 + [ONE, ONE, wrong], [0, 1, 2], True)

    def test_wrong_comes_first(self):
        great = numbers_of([GREATEST, 0, 0, 0, GREATEST, 0, 0, 0, GREATEST])
        self.assertEqual(mass(great, [0, 1, 2]), [-7])
        self.assertEqual(mass(great, [0, 1, 2, 0, 1, 3]), [-8])
        self.assertEqual(heart3(great, [0, 1, 1]), [-5])
        self.assertEqual(heart3(great, [0, 1, 1, 0, 1, 3]), [-8])
        self.assertEqual(heart3(great + [ONE], [0, 1, 1]), [-8])
