"""Point 15: parts."""

import random
import unittest

from exactplaces.exact import parts, sum_of
from helper import ABOVE_ONE, EXTREMES, GREATEST, LEAST, any_number, bits, near_number
from truth import numbers_of, told, value_of, values_of

ONE = bits(1.0)


def true_parts(x):
    left = sum(values_of(x))
    found = []
    while left != 0:
        found.append(told(left))
        if found[-1] is None:
            return [-7]
        left -= value_of(found[-1])
    return [len(found)] + found


class PartsTest(unittest.TestCase):
    def check(self, x, found):
        x, found = numbers_of(x), numbers_of(found)
        self.assertEqual(true_parts(x), [len(found)] + found)
        self.assertEqual(parts(x), [len(found)] + found)
        self.assertEqual(parts(x[::-1]), [len(found)] + found)
        self.assertEqual(sum(values_of(x)), sum(values_of(found)))

    def test_none(self):
        self.check([], [])
        self.check([0.0], [])
        self.check([-0.0, -0.0], [])
        self.check([5, -2, -3], [])
        self.check([GREATEST, LEAST, -GREATEST, -LEAST], [])

    def test_one(self):
        self.check([7], [7])
        self.check([1, 2, -3.5], [-0.5])
        self.check([LEAST], [LEAST])
        self.check([GREATEST, GREATEST, -GREATEST], [GREATEST])
        self.check([1, LEAST, -1], [LEAST])

    def test_several(self):
        self.check([1, LEAST], [1, LEAST])
        self.check([1, 2.0 ** -60, -2.0 ** -200], [1, 2.0 ** -60, -2.0 ** -200])
        self.check([GREATEST, 1, -LEAST], [GREATEST, 1, -LEAST])
        self.check([1e300, 1, 1e-300, 1], [1e300, 2, 1e-300])

    def test_what_is_left_may_be_of_either_sign(self):
        self.check([1, 3 * 2.0 ** -54], [ABOVE_ONE, -2.0 ** -54])
        self.check([-1, -3 * 2.0 ** -54], [-ABOVE_ONE, 2.0 ** -54])
        self.check([1, 2.0 ** -54], [1, 2.0 ** -54])

    def test_halves(self):
        self.check([1, 2.0 ** -53], [1, 2.0 ** -53])
        self.check([ABOVE_ONE, 2.0 ** -53], [1 + 2.0 ** -51, -2.0 ** -53])
        self.check([1, 2.0 ** -53, LEAST], [ABOVE_ONE, -2.0 ** -53, LEAST])

    def test_many(self):
        source = random.Random(5)
        spread = [bits(2.0 ** (60 * i - 900) * source.choice((1, -1))) for i in range(30)]
        source.shuffle(spread)
        answer = parts(spread)
        self.assertEqual(answer, true_parts(spread))
        self.assertEqual(answer[0], 30)

    def test_beyond_the_greatest_number_or_not(self):
        for x, answer in (([GREATEST, 2.0 ** 970], None), ([GREATEST] * 2, None), ([-GREATEST] * 3, None),
                          ([GREATEST, 2.0 ** 970, -LEAST], [GREATEST, 2.0 ** 970, -LEAST]),
                          ([-GREATEST, -2.0 ** 970, LEAST], [-GREATEST, -2.0 ** 970, LEAST])):
            if answer is None:
                self.assertEqual(parts(numbers_of(x)), [-7])
            else:
                self.check(x, answer)

    def test_length_of_the_row(self):
        self.assertEqual(parts([ONE] * 256), [1, bits(256.0)])
        self.assertEqual(parts([ONE] * 257), [-8])
        self.assertEqual(parts([bits(GREATEST)] * 256), [-7])
        self.assertEqual(parts([bits(GREATEST)] * 257), [-8])

    def test_against_fractions(self):
        source = random.Random(15)
        for number in (near_number, any_number, lambda s: bits(s.choice(EXTREMES))):
            for _ in range(300):
                x = [number(source) for _ in range(source.randrange(12))]
                answer = parts(x)
                self.assertEqual(answer, true_parts(x), x)
                if answer[0] > 0:
                    self.assertEqual(sum_of(x), [0, answer[1]])
