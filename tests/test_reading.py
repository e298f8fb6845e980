"""A number is a finite double told by its bits, read exactly."""

import random
import struct
import unittest
from fractions import Fraction

from exactplaces.exact import longer, nearer
from exactplaces.reading import read_number
from exactplaces.refusals import WrongInput
from helper import EXTREMES, LEAST, LEAST_NORMAL, NOT_FINITE, SIGN, bits, point


def true_value(number):
    return Fraction(struct.unpack("<d", struct.pack("<Q", number))[0])


class ReadNumberTest(unittest.TestCase):
    def check(self, number):
        self.assertEqual(Fraction(read_number(number), 2 ** 1074), true_value(number), hex(number))

    def test_chosen_numbers(self):
        for x in EXTREMES:
            self.check(bits(x))
            self.check(bits(-x))

    def test_each_exponent_at_both_ends(self):
        for exponent in range(2047):
            for fraction in (0, 1, 2 ** 52 - 1):
                self.check(exponent << 52 | fraction)
                self.check(exponent << 52 | fraction | SIGN)

    def test_any_bits(self):
        source = random.Random(10)
        for _ in range(2000):
            number = source.getrandbits(64)
            if number >> 52 & 2047 != 2047:
                self.check(number)

    def test_no_finite_double(self):
        for number in NOT_FINITE:
            with self.assertRaises(WrongInput):
                read_number(number)

    def test_no_64_bits(self):
        for number in (-1, 2 ** 64, 2 ** 64 + bits(1.0), 2 ** 65, -2 ** 64):
            with self.assertRaises(WrongInput):
                read_number(number)


class WhereStepsBeginToGrowTest(unittest.TestCase):
    def test_neighbours_of_the_least_normal_number_are_as_near(self):
        middle = point(LEAST_NORMAL, 0)
        below, above = point(LEAST_NORMAL - LEAST, 0), point(LEAST_NORMAL + LEAST, 0)
        self.assertEqual(nearer(2, middle, below, above), [0])
        self.assertEqual(longer(2, middle, below, point(0, 0), point(LEAST, 0)), [0])
        self.assertEqual(longer(2, middle, above, point(0, 0), point(LEAST, 0)), [0])

    def test_the_least_normal_number_doubled(self):
        middle, twice = point(LEAST_NORMAL, 0), point(2 * LEAST_NORMAL, 0)
        self.assertEqual(nearer(2, middle, point(0, 0), twice), [0])
        self.assertEqual(nearer(2, twice, point(4 * LEAST_NORMAL - LEAST_NORMAL, 0), middle), [0])
