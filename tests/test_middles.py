"""Points 33 and 34: middles and order."""

import math
import random
import unittest
from fractions import Fraction

from exactplaces.exact import middles, order
from helper import ABOVE_ONE, GREATEST, LEAST, LEAST_NORMAL, NOT_FINITE, SIZES, any_interval, bits
from truth import intervals_of, numbers_of, rounded_up, told, value_of

ONE = bits(1.0)
TWO_STEPS = 1 + 2.0 ** -51
TOP_STEP = 2.0 ** 971


def true_middles(X):
    X = intervals_of(X)
    found = [told((low + high) / Fraction(2)) for low, high in X]
    reaches = [rounded_up(max(value_of(m) - low, high - value_of(m))) for m, (low, high) in zip(found, X)]
    return [-7] if None in found + reaches else [0] + found + reaches


class MiddlesTest(unittest.TestCase):
    def check(self, X, m, r):
        X = numbers_of(X)
        expected = [0] + numbers_of(m) + numbers_of(r)
        self.assertEqual(true_middles(X), expected)
        self.assertEqual(middles(X), expected)

    def test_points(self):
        self.check((3, 3), [3], [0.0])
        self.check((-0.1, -0.1), [-0.1], [0.0])
        self.check((-0.0, -0.0), [0.0], [0.0])
        self.check((LEAST, LEAST), [LEAST], [0.0])
        self.check((-GREATEST, -GREATEST), [-GREATEST], [0.0])

    def test_ordinary_intervals(self):
        self.check((1, 2), [1.5], [0.5])
        self.check((-7, -3), [-5], [2])
        self.check((-1, 3), [1], [2])
        self.check((-3, 3), [0.0], [3])

    def test_all_m_then_all_r(self):
        self.check((1, 2, -7, -3, 5, 5), [1.5, -5, 5], [0.5, 2, 0.0])

    def test_an_m_that_is_rounded(self):
        self.check((1, ABOVE_ONE), [1], [2.0 ** -52])
        self.check((ABOVE_ONE, TWO_STEPS), [TWO_STEPS], [2.0 ** -52])
        self.check((-ABOVE_ONE, -1), [-1], [2.0 ** -52])
        self.check((1, 2.0 ** 60), [2.0 ** 59], [2.0 ** 59])
        self.check((-1, 2.0 ** 60), [2.0 ** 59], [2.0 ** 59 + 128])
        self.check((LEAST, 1), [0.5], [0.5])

    def test_an_r_that_must_reach_both_ends(self):
        self.check((-LEAST, 1), [0.5], [math.nextafter(0.5, 1)])
        self.check((-1, LEAST), [-0.5], [math.nextafter(0.5, 1)])
        self.check((-2.0 ** -60, 1), [0.5], [math.nextafter(0.5, 1)])
        self.check((-2.0 ** -53, 1), [0.5 - 2.0 ** -54], [0.5 + 2.0 ** -53])

    def test_least_numbers(self):
        self.check((0, LEAST), [0.0], [LEAST])
        self.check((-LEAST, 0), [0.0], [LEAST])
        self.check((LEAST, 2 * LEAST), [2 * LEAST], [LEAST])
        self.check((-2 * LEAST, -LEAST), [-2 * LEAST], [LEAST])
        self.check((-LEAST, LEAST), [0.0], [LEAST])
        self.check((LEAST_NORMAL - LEAST, LEAST_NORMAL), [LEAST_NORMAL], [LEAST])

    def test_greatest_numbers(self):
        self.check((-GREATEST, GREATEST), [0.0], [GREATEST])
        self.check((0, GREATEST), [GREATEST / 2], [GREATEST / 2])
        self.check((GREATEST - TOP_STEP, GREATEST), [GREATEST - TOP_STEP], [TOP_STEP])
        self.check((-GREATEST, GREATEST - TOP_STEP), [-TOP_STEP / 2], [GREATEST])
        self.check((-GREATEST, LEAST), [-GREATEST / 2], [math.nextafter(GREATEST / 2, math.inf)])

    def test_lengths_and_lists_that_end_in_part(self):
        self.assertEqual(middles([]), [0])
        self.assertEqual(middles([ONE] * 4096), [0] + [ONE] * 2048 + [0] * 2048)
        self.assertEqual(middles([ONE] * 4098), [-8])
        for count in (1, 3, 4095, 4097):
            self.assertEqual(middles([ONE] * count), [-8])

    def test_wrong_intervals(self):
        for wrong in (numbers_of((2, 1)), numbers_of((LEAST, 0)), numbers_of((-0.0, -LEAST))):
            self.assertEqual(middles(wrong), [-8])
            self.assertEqual(middles([ONE] * 2 + wrong), [-8])
        for wrong in NOT_FINITE:
            self.assertEqual(middles([wrong, ONE]), [-8])
            self.assertEqual(middles([ONE, ONE, ONE, wrong]), [-8])

    def test_against_fractions(self):
        source = random.Random(33)
        for size in SIZES:
            for _ in range(300):
                X = [n for _ in range(source.randrange(1, 5)) for n in any_interval(source, size)]
                self.assertEqual(middles(X), true_middles(X), X)


class OrderTest(unittest.TestCase):
    def check(self, X, Y, answer):
        X, Y = numbers_of(X), numbers_of(Y)
        self.assertEqual(order(X, Y), [0] + answer)
        self.assertEqual(order(Y, X), [0] + [-sign for sign in answer])

    def test_below_and_above(self):
        self.check((1, 2), (3, 4), [-1])
        self.check((3, 4), (1, 2), [1])
        self.check((-4, -3), (-2, 5), [-1])
        self.check((1, 1), (ABOVE_ONE, ABOVE_ONE), [-1])
        self.check((-GREATEST, -LEAST), (0.0, GREATEST), [-1])

    def test_touching(self):
        self.check((1, 2), (2, 4), [0])
        self.check((1, 1), (1, 1), [0])
        self.check((-1, -0.0), (0.0, 1), [0])
        self.check((0.0, 0.0), (-0.0, -0.0), [0])

    def test_within_and_overlapping(self):
        self.check((1, 4), (2, 3), [0])
        self.check((1, 3), (2, 4), [0])
        self.check((2, 2), (1, 3), [0])

    def test_several_pairs(self):
        self.check((1, 2, 5, 6, 1, 9), (3, 4, 1, 2, 2, 3), [-1, 1, 0])

    def test_lengths_and_lists_that_end_in_part(self):
        self.assertEqual(order([], []), [0])
        most = [ONE] * 4096
        self.assertEqual(order(most, most), [0] * 2049)
        self.assertEqual(order(most + [ONE] * 2, most + [ONE] * 2), [-8])
        for X, Y in (([ONE] * 2, []), ([], [ONE] * 2), ([ONE] * 4, [ONE] * 2)):
            self.assertEqual(order(X, Y), [-8])
        for count in (1, 3, 4095, 4097):
            self.assertEqual(order([ONE] * count, [ONE] * count), [-8])

    def test_wrong_intervals(self):
        for wrong in (numbers_of((2, 1)), numbers_of((LEAST, 0)), [ONE, NOT_FINITE[0]], [NOT_FINITE[3], ONE]):
            self.assertEqual(order(wrong, [ONE] * 2), [-8])
            self.assertEqual(order([ONE] * 2, wrong), [-8])
            self.assertEqual(order([ONE] * 2 + wrong, [ONE] * 4), [-8])

    def test_against_fractions(self):
        source = random.Random(34)
        for size in SIZES:
            for _ in range(300):
                X, Y = any_interval(source, size), any_interval(source, size)
                (x,), (y,) = intervals_of(X), intervals_of(Y)
                answer = -1 if max(x) < min(y) else 1 if min(x) > max(y) else 0
                self.assertEqual(order(X, Y), [0, answer], (X, Y))
