"""Point 26: whole and number."""

import random
import unittest

from exactplaces.exact import number, whole
from helper import GREATEST, LEAST, NOT_FINITE, SIZES, bits, near_number
from truth import numbers_of, rounded_by, values_of, whole_by

ONE = bits(1.0)
KINDS = ((-2 ** 31, 2 ** 31 - 1), (0, 2 ** 32 - 1), (-2 ** 63, 2 ** 63 - 1), (0, 2 ** 64 - 1))


def true_whole(kind, way, x):
    wholes = [whole_by(way, value) for value in values_of(x)]
    low, high = KINDS[kind]
    return [0] + wholes if all(low <= w <= high for w in wholes) else [-7]


class WholeTest(unittest.TestCase):
    def check(self, kind, way, x, answer):
        numbers = numbers_of(x)
        expected = [-7] if answer is None else [0] + answer
        self.assertEqual(true_whole(kind, way, numbers), expected)
        self.assertEqual(whole(kind, way, numbers), expected)

    def test_each_way(self):
        x = [1.25, 1.75, -1.25, -1.75, 3, -3]
        for kind in (0, 2):
            self.check(kind, 0, x, [1, 2, -1, -2, 3, -3])
            self.check(kind, 1, x, [1, 1, -2, -2, 3, -3])
            self.check(kind, 2, x, [2, 2, -1, -1, 3, -3])
            self.check(kind, 3, x, [1, 1, -1, -1, 3, -3])
        x = [1.25, 1.75, 3, 1e9 + 0.5]
        for kind in (1, 3):
            self.check(kind, 0, x, [1, 2, 3, 10 ** 9])
            self.check(kind, 1, x, [1, 1, 3, 10 ** 9])
            self.check(kind, 2, x, [2, 2, 3, 10 ** 9 + 1])
            self.check(kind, 3, x, [1, 1, 3, 10 ** 9])

    def test_halves(self):
        x = [0.5, 1.5, 2.5, -0.5, -1.5, -2.5]
        self.check(0, 0, x, [0, 2, 2, 0, -2, -2])
        self.check(2, 0, x, [0, 2, 2, 0, -2, -2])
        self.check(2, 1, x, [0, 1, 2, -1, -2, -3])
        self.check(2, 2, x, [1, 2, 3, 0, -1, -2])
        self.check(2, 3, x, [0, 1, 2, 0, -1, -2])

    def test_zero_and_least_numbers(self):
        for kind in range(4):
            for way in range(4):
                self.check(kind, way, [0.0, -0.0], [0, 0])
            self.check(kind, 0, [LEAST, -LEAST], [0, 0])
            self.check(kind, 3, [LEAST, -LEAST], [0, 0])
            self.check(kind, 2, [LEAST, -LEAST], [1, 0])
        self.check(0, 1, [LEAST, -LEAST], [0, -1])
        self.check(1, 1, [-LEAST], None)

    def test_bounds_of_the_short_kinds(self):
        self.check(0, 0, [2.0 ** 31 - 1, -2.0 ** 31], [2 ** 31 - 1, -2 ** 31])
        self.check(0, 0, [2.0 ** 31], None)
        self.check(0, 0, [-2.0 ** 31 - 1], None)
        self.check(1, 0, [2.0 ** 32 - 1, 0], [2 ** 32 - 1, 0])
        self.check(1, 0, [2.0 ** 32], None)
        self.check(1, 0, [-1], None)

    def test_bounds_of_the_long_kinds(self):
        self.check(2, 0, [2.0 ** 63 - 1024, -2.0 ** 63], [2 ** 63 - 1024, -2 ** 63])
        self.check(2, 0, [2.0 ** 63], None)
        self.check(2, 0, [-2.0 ** 63 - 2048], None)
        self.check(3, 0, [2.0 ** 64 - 2048, 0], [2 ** 64 - 2048, 0])
        self.check(3, 0, [2.0 ** 64], None)
        self.check(3, 0, [-1], None)

    def test_rounded_onto_a_bound_or_beyond(self):
        self.check(0, 0, [2.0 ** 31 - 0.75], [2 ** 31 - 1])
        self.check(0, 0, [2.0 ** 31 - 0.5], None)
        self.check(0, 1, [2.0 ** 31 - 0.25], [2 ** 31 - 1])
        self.check(0, 3, [2.0 ** 31 - 0.25], [2 ** 31 - 1])
        self.check(0, 2, [2.0 ** 31 - 0.75], None)
        self.check(0, 0, [-2.0 ** 31 - 0.5], [-2 ** 31])
        self.check(0, 2, [-2.0 ** 31 - 0.75], [-2 ** 31])
        self.check(0, 3, [-2.0 ** 31 - 0.75], [-2 ** 31])
        self.check(0, 1, [-2.0 ** 31 - 0.25], None)
        self.check(1, 0, [-0.5], [0])
        self.check(1, 0, [-0.75], None)
        self.check(1, 3, [-0.75], [0])
        self.check(3, 2, [-0.75], [0])
        self.check(3, 1, [-0.25], None)
        self.check(1, 0, [2.0 ** 32 - 0.5], None)
        self.check(1, 1, [2.0 ** 32 - 0.25], [2 ** 32 - 1])

    def test_one_of_many_beyond(self):
        self.check(0, 0, [1, 2, 3, 1e10], None)
        self.check(0, 0, [-1e10, 2, 3], None)
        for kind in range(4):
            self.check(kind, 0, [GREATEST], None)
            self.check(kind, 3, [-GREATEST], None)

    def test_length_of_the_row(self):
        for kind in range(4):
            self.assertEqual(whole(kind, 0, []), [0])
            self.assertEqual(whole(kind, 0, [ONE] * 4096), [0] + [1] * 4096)
            self.assertEqual(whole(kind, 0, [ONE] * 4097), [-8])

    def test_wrong_kind_and_way(self):
        for wrong in (4, 5, 2 ** 64 - 1):
            for x in ([], [ONE], [bits(GREATEST)]):
                self.assertEqual(whole(wrong, 0, x), [-8])
                self.assertEqual(whole(0, wrong, x), [-8])
        self.assertEqual(whole(3, 3, [ONE]), [0, 1])

    def test_wrong_numbers_ahead_of_those_beyond(self):
        for wrong in NOT_FINITE:
            self.assertEqual(whole(0, 0, [wrong]), [-8])
            self.assertEqual(whole(0, 0, [bits(1e10), wrong]), [-8])

    def test_against_fractions(self):
        source = random.Random(26)
        for size in SIZES + (lambda s: near_number(s, 5),):
            for kind in range(4):
                for way in range(4):
                    for _ in range(10):
                        x = [size(source) for _ in range(source.randrange(4))]
                        self.assertEqual(whole(kind, way, x), true_whole(kind, way, x), (kind, way, x))


class NumberTest(unittest.TestCase):
    def check(self, way, x, answer):
        expected = [0] + numbers_of(answer)
        self.assertEqual([0] + [rounded_by(way, n) for n in x], expected)
        self.assertEqual(number(way, x), expected)

    def test_numbers_that_need_no_rounding(self):
        for way in range(4):
            self.check(way, [0, 1, -1, 7, 2 ** 53 - 1], [0.0, 1, -1, 7, 2.0 ** 53 - 1])
            self.check(way, [2 ** 53, -2 ** 53, 3 * 2 ** 60], [2.0 ** 53, -2.0 ** 53, 3 * 2.0 ** 60])

    def test_halves(self):
        x = [2 ** 53 + 1, 2 ** 53 + 3, -2 ** 53 - 1, -2 ** 53 - 3]
        self.check(0, x, [2.0 ** 53, 2.0 ** 53 + 4, -2.0 ** 53, -2.0 ** 53 - 4])
        self.check(1, x, [2.0 ** 53, 2.0 ** 53 + 2, -2.0 ** 53 - 2, -2.0 ** 53 - 4])
        self.check(2, x, [2.0 ** 53 + 2, 2.0 ** 53 + 4, -2.0 ** 53, -2.0 ** 53 - 2])
        self.check(3, x, [2.0 ** 53, 2.0 ** 53 + 2, -2.0 ** 53, -2.0 ** 53 - 2])

    def test_the_bounds(self):
        x = [-2 ** 63, -2 ** 63 + 1, 2 ** 63 - 1, 2 ** 63, 2 ** 64 - 1]
        self.check(0, x, [-2.0 ** 63, -2.0 ** 63, 2.0 ** 63, 2.0 ** 63, 2.0 ** 64])
        self.check(1, x, [-2.0 ** 63, -2.0 ** 63, 2.0 ** 63 - 1024, 2.0 ** 63, 2.0 ** 64 - 2048])
        self.check(2, x, [-2.0 ** 63, -2.0 ** 63 + 1024, 2.0 ** 63, 2.0 ** 63, 2.0 ** 64])
        self.check(3, x, [-2.0 ** 63, -2.0 ** 63 + 1024, 2.0 ** 63 - 1024, 2.0 ** 63, 2.0 ** 64 - 2048])

    def test_beyond_the_bounds(self):
        for wrong in (-2 ** 63 - 1, 2 ** 64):
            self.assertEqual(number(0, [wrong]), [-8])
            self.assertEqual(number(0, [1, 2, wrong]), [-8])

    def test_bits_are_whole_numbers_here(self):
        for wrong in NOT_FINITE:
            self.assertEqual(number(0, [wrong]), [0, rounded_by(0, wrong)])

    def test_length_of_the_row(self):
        for way in range(4):
            self.assertEqual(number(way, []), [0])
            self.assertEqual(number(way, [1] * 4096), [0] + [ONE] * 4096)
            self.assertEqual(number(way, [1] * 4097), [-8])

    def test_wrong_way(self):
        for wrong in (4, 5, 2 ** 64 - 1):
            for x in ([], [1]):
                self.assertEqual(number(wrong, x), [-8])

    def test_against_fractions(self):
        source = random.Random(36)
        for way in range(4):
            for _ in range(500):
                size = source.randrange(1, 65)
                x = [source.getrandbits(size), -source.getrandbits(min(size, 63))]
                self.assertEqual(number(way, x), [0] + [rounded_by(way, n) for n in x], (way, x))
