"""Point 27: pick."""

import random
import unittest

from exactplaces.exact import pick
from helper import ABOVE_ONE, GREATEST, LEAST, NOT_FINITE, SIZES, bits
from truth import numbers_of, told, values_of

ONE = bits(1.0)


def true_pick(op, x, y):
    found = []
    for pair in zip(values_of(x), values_of(y)):
        if op > 1:
            size = (min if op == 2 else max)(abs(v) for v in pair)
            pair = [v for v in pair if abs(v) == size]
        found.append(told(min(pair) if op % 2 == 0 else max(pair)))
    return [0] + found


class PickTest(unittest.TestCase):
    def check(self, x, y, *answers):
        x, y = numbers_of(x), numbers_of(y)
        for op, answer in enumerate(answers):
            expected = [0] + numbers_of(answer)
            self.assertEqual(true_pick(op, x, y), expected)
            self.assertEqual(pick(op, x, y), expected)
            self.assertEqual(pick(op, y, x), expected)

    def test_each_op(self):
        self.check([1], [2], [1], [2], [1], [2])
        self.check([-1], [-2], [-2], [-1], [-1], [-2])
        self.check([-1], [2], [-1], [2], [-1], [2])
        self.check([1], [-2], [-2], [1], [1], [-2])

    def test_several_pairs(self):
        self.check([1, 5, -3], [2, -7, -4], [1, -7, -4], [2, 5, -3], [1, 5, -3], [2, -7, -4])

    def test_two_of_one_size(self):
        self.check([3], [-3], [-3], [3], [-3], [3])
        self.check([-GREATEST], [GREATEST], [-GREATEST], [GREATEST], [-GREATEST], [GREATEST])
        self.check([-LEAST], [LEAST], [-LEAST], [LEAST], [-LEAST], [LEAST])
        self.check([5], [5], [5], [5], [5], [5])

    def test_both_zeros_are_one_number_and_told_as_plus_0(self):
        for one in (0.0, -0.0):
            for other in (0.0, -0.0):
                self.check([one], [other], [0.0], [0.0], [0.0], [0.0])
            self.check([one], [LEAST], [0.0], [LEAST], [0.0], [LEAST])
            self.check([one], [-LEAST], [-LEAST], [0.0], [0.0], [-LEAST])

    def test_last_bit_alone(self):
        self.check([1], [ABOVE_ONE], [1], [ABOVE_ONE], [1], [ABOVE_ONE])
        self.check([-1], [ABOVE_ONE], [-1], [ABOVE_ONE], [-1], [ABOVE_ONE])
        self.check([1], [-ABOVE_ONE], [-ABOVE_ONE], [1], [1], [-ABOVE_ONE])

    def test_lengths_of_the_rows(self):
        for op in range(4):
            self.assertEqual(pick(op, [], []), [0])
            self.assertEqual(pick(op, [ONE] * 4096, [ONE] * 4096), [0] + [ONE] * 4096)
            self.assertEqual(pick(op, [ONE] * 4097, [ONE] * 4097), [-8])
            for x, y in (([ONE], []), ([], [ONE]), ([ONE] * 3, [ONE] * 2)):
                self.assertEqual(pick(op, x, y), [-8])

    def test_wrong_op(self):
        for op in (4, 5, 2 ** 64 - 1):
            for row in ([], [ONE]):
                self.assertEqual(pick(op, row, row), [-8])

    def test_wrong_numbers(self):
        for wrong in NOT_FINITE:
            for op in range(4):
                self.assertEqual(pick(op, [ONE, wrong], [ONE, ONE]), [-8])
                self.assertEqual(pick(op, [ONE, ONE], [ONE, wrong]), [-8])

    def test_against_fractions(self):
        source = random.Random(27)
        for size in SIZES:
            for _ in range(100):
                x = [size(source) for _ in range(5)]
                y = [source.choice((size(source), n, n ^ 1 << 63)) for n in x]
                for op in range(4):
                    self.assertEqual(pick(op, x, y), true_pick(op, x, y), (op, x, y))
