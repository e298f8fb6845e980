"""Point 31: weigh and rows."""

import random
import unittest

from exactplaces.exact import rows, weigh
from helper import ABOVE_ONE, GREATEST, LEAST, NOT_FINITE, SIZES, any_interval, bits
from truth import intervals_answer, intervals_of, numbers_of, weighed_ends

ONE = bits(1.0)


def true_weigh(X, Y):
    return intervals_answer([weighed_ends(intervals_of(X), intervals_of(Y))])


def true_rows(n, A, X):
    A = intervals_of(A)
    return intervals_answer([weighed_ends(A[i * n:i * n + n], intervals_of(X)) for i in range(n)])


def random_intervals(source, size, count):
    return [n for _ in range(count) for n in any_interval(source, size)]


class WeighTest(unittest.TestCase):
    def check(self, X, Y, answer):
        X, Y = numbers_of(X), numbers_of(Y)
        expected = [0] + numbers_of(answer) if isinstance(answer, tuple) else [answer]
        self.assertEqual(true_weigh(X, Y), expected)
        self.assertEqual(weigh(X, Y), expected)
        self.assertEqual(weigh(Y, X), expected)

    def test_none_one_and_several(self):
        self.check((), (), (0.0, 0.0))
        self.check((1, 2), (10, 20), (10, 40))
        self.check((-1, 2), (-3, 5), (-6, 10))
        self.check((1, 2, -1, 1), (10, 20, 3, 4), (6, 44))
        self.check((1, 1, 2, 2, 3, 3), (4, 4, -5, -5, 6, 6), (12, 12))
        self.check((-2, -1, 0, 3), (-1, 1, -2, 2), (-8, 8))

    def test_rounded_once(self):
        self.check((1, 1, 1, 1, -1, -1), (1e200, 1e200, 3, 3, 1e200, 1e200), (3, 3))
        self.check((GREATEST,) * 4, (2, 2, -2, -2), (0.0, 0.0))
        self.check((1, 1, LEAST, LEAST), (1, 1, LEAST, LEAST), (1, ABOVE_ONE))
        self.check((1, 1, -LEAST, LEAST), (1, 1, LEAST, LEAST), (1 - 2.0 ** -53, ABOVE_ONE))
        self.check((ABOVE_ONE,) * 2 + (1, 1), (ABOVE_ONE,) * 2 + (-1 - 2.0 ** -51,) * 2, (2.0 ** -104,) * 2)

    def test_least_numbers_and_zero(self):
        self.check((LEAST, LEAST), (LEAST, LEAST), (0.0, LEAST))
        self.check((-LEAST, -LEAST), (LEAST, LEAST), (-LEAST, 0.0))
        self.check((LEAST, LEAST, LEAST, LEAST), (LEAST, LEAST, -LEAST, -LEAST), (0.0, 0.0))
        self.check((-0.0, -0.0), (5, 6), (0.0, 0.0))

    def test_beyond_the_greatest_number_or_not(self):
        self.check((GREATEST, GREATEST), (-1, 1), (-GREATEST, GREATEST))
        self.check((GREATEST, GREATEST, 1, 1), (-1, 1, LEAST, LEAST), -7)
        self.check((GREATEST, GREATEST, 1, 1), (-1, 1, -LEAST, -LEAST), -7)
        self.check((GREATEST, GREATEST, 1, 1), (1, 1, -LEAST, -LEAST), (GREATEST - 2.0 ** 971, GREATEST))
        self.check((GREATEST, GREATEST, 1, 1), (-1, -1, LEAST, LEAST), (-GREATEST, -GREATEST + 2.0 ** 971))
        self.check((GREATEST, GREATEST, LEAST, LEAST), (1, 1, LEAST, LEAST), -7)

    def test_lengths_of_the_rows(self):
        most = [ONE] * 4096
        self.assertEqual(weigh(most, most), [0, bits(2048.0), bits(2048.0)])
        self.assertEqual(weigh(most + [ONE] * 2, most + [ONE] * 2), [-8])
        for X, Y in (([ONE] * 2, []), ([], [ONE] * 2), ([ONE] * 4, [ONE] * 2)):
            self.assertEqual(weigh(X, Y), [-8])
        for count in (1, 3, 4095, 4097):
            self.assertEqual(weigh([ONE] * count, [ONE] * count), [-8])

    def test_wrong_intervals(self):
        great = numbers_of((GREATEST, GREATEST))
        for wrong in (numbers_of((2, 1)), numbers_of((LEAST, 0)), [ONE, NOT_FINITE[0]], [NOT_FINITE[3], ONE]):
            self.assertEqual(weigh(great + wrong, great + [ONE, ONE]), [-8])
            self.assertEqual(weigh(great + [ONE, ONE], great + wrong), [-8])

    def test_against_fractions(self):
        source = random.Random(31)
        for size in SIZES:
            for _ in range(150):
                count = source.randrange(6)
                X, Y = random_intervals(source, size, count), random_intervals(source, size, count)
                self.assertEqual(weigh(X, Y), true_weigh(X, Y), (X, Y))


class RowsTest(unittest.TestCase):
    def check(self, n, A, X, answer):
        A, X = numbers_of(A), numbers_of(X)
        expected = [0] + numbers_of(answer) if isinstance(answer, tuple) else [answer]
        self.assertEqual(true_rows(n, A, X), expected)
        self.assertEqual(rows(n, A, X), expected)

    def test_one_two_and_sixteen(self):
        self.check(1, (2, 3), (-1, 5), (-3, 15))
        self.check(2, (1, 2, 0, 1, -1, 1, 3, 3), (1, 1, 10, 20), (1, 22, 29, 61))
        A = [v for i in range(16) for j in range(16) for v in ((i, i + 1) if i == j else (0, 0))]
        X = [v for j in range(16) for v in (j, j + 2)]
        self.check(16, A, X, tuple(v for i in range(16) for v in (i * i, (i + 1) * (i + 2))))

    def test_row_by_row(self):
        self.check(2, (1, 1, 2, 2, 3, 3, 4, 4), (1, 1, 10, 10), (21, 21, 43, 43))
        self.check(3, [v for i in range(9) for v in (i, i)], (1, 1, 10, 10, 100, 100), (210, 210, 543, 543, 876, 876))

    def test_rounded_once(self):
        self.check(2, (1e200, 1e200, 1, 1, 1, 1, LEAST, LEAST), (1, 1, LEAST, LEAST),
                   (1e200, 1.0000000000000001e+200, 1, ABOVE_ONE))

    def test_one_row_that_cannot_be_told(self):
        self.check(2, (1, 1, 0, 0, GREATEST, GREATEST, 1, 1), (1, 1, 0, 0), (1, 1, GREATEST, GREATEST))
        self.check(2, (1, 1, 0, 0, GREATEST, GREATEST, 1, 1), (1, 1, 0, LEAST), -7)
        self.check(2, (-GREATEST, 0, 1, 1, 1, 1, 1, 1), (0, 1, -LEAST, 0), -7)

    def test_counts(self):
        for n in (0, 17, 18, 2 ** 64 - 1):
            self.assertEqual(rows(n, [], []), [-8])
            self.assertEqual(rows(n, [ONE] * 2, [ONE] * 2), [-8])
            self.assertEqual(rows(n, [ONE] * 512, [ONE] * 32), [-8])
        self.assertEqual(rows(17, [ONE] * 578, [ONE] * 34), [-8])
        for n in (1, 2, 16):
            self.assertEqual(rows(n, [ONE] * 2 * n * n, [ONE] * 2 * n), [0] + [bits(float(n))] * 2 * n)
            for change in (-2, -1, 1, 2):
                self.assertEqual(rows(n, [ONE] * (2 * n * n + change), [ONE] * 2 * n), [-8])
                self.assertEqual(rows(n, [ONE] * 2 * n * n, [ONE] * (2 * n + change)), [-8])

    def test_wrong_intervals(self):
        great = numbers_of((GREATEST, GREATEST))
        for wrong in (numbers_of((2, 1)), numbers_of((LEAST, 0)), [ONE, NOT_FINITE[0]], [NOT_FINITE[3], ONE]):
            self.assertEqual(rows(2, great * 3 + wrong, great * 2), [-8])
            self.assertEqual(rows(2, great * 4, great + wrong), [-8])

    def test_against_fractions(self):
        source = random.Random(41)
        for size in SIZES:
            for n in range(1, 6):
                for _ in range(20):
                    A, X = random_intervals(source, size, n * n), random_intervals(source, size, n)
                    self.assertEqual(rows(n, A, X), true_rows(n, A, X), (n, A, X))
