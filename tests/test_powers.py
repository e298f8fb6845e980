"""Point 32: powers."""

import random
import unittest

from exactplaces.exact import both, powers
from helper import ABOVE_ONE, GREATEST, LEAST, NOT_FINITE, SIZES, any_interval, bits, near_number
from truth import intervals_of, numbers_of, products, rounded_down, rounded_up, value_of

ONE = bits(1.0)


# The narrowest interval, as fractions; None where it can't be told.
def narrowest(members):
    ends = [rounded_down(min(members)), rounded_up(max(members))]
    return None if None in ends else [value_of(end) for end in ends]


def true_powers(c, X):
    c, (X,) = intervals_of(c), intervals_of(X)
    found = c[-1]
    for low, high in reversed(c[:-1]):
        found = narrowest(products(found, X))
        found = found and narrowest([found[0] + low, found[1] + high])
        if found is None:
            return [-7]
    return [0, rounded_down(found[0]), rounded_up(found[1])]


class PowersTest(unittest.TestCase):
    def check(self, c, X, answer):
        c, X = numbers_of(c), numbers_of(X)
        expected = [0] + numbers_of(answer) if isinstance(answer, tuple) else [answer]
        self.assertEqual(true_powers(c, X), expected)
        self.assertEqual(powers(c, X), expected)

    def test_one_c(self):
        self.check((3, 5), (-1, 7), (3, 5))
        self.check((-0.0, 0.0), (1, 1), (0.0, 0.0))
        self.check((-0.0, 5), (1, 1), (0.0, 5))
        self.check((-GREATEST, GREATEST), (GREATEST, GREATEST), (-GREATEST, GREATEST))

    def test_several_c(self):
        self.check((1, 1, 2, 2), (10, 10), (21, 21))
        self.check((1, 1, 2, 2, 3, 3), (2, 2), (17, 17))
        self.check((1, 2, 3, 4), (2, 5), (7, 22))

    def test_below_0_above_0_and_with_0_within(self):
        c = (1, 1, -2, 3, 1, 1)
        self.check(c, (2, 3), (1, 19))
        self.check(c, (-3, -2), (-2, 16))
        self.check(c, (-1, 2), (-5, 11))
        # The same x twice counts as two: no square is taken.
        self.check((0, 0, 0, 0, 1, 1), (-1, 2), (-2, 4))

    def test_each_step_is_rounded_by_itself(self):
        self.check((-1, -1, ABOVE_ONE, ABOVE_ONE), (ABOVE_ONE, ABOVE_ONE), (2.0 ** -51, 3 * 2.0 ** -52))
        self.check((-1, -1, 1, 1, LEAST, LEAST), (1, 1), (0.0, 2.0 ** -52))
        self.check((0, 0, 0, 0, LEAST, LEAST), (0.5, 0.5), (0.0, LEAST))
        self.check((0, 0, 0, 0, -LEAST, -LEAST), (0.5, 0.5), (-LEAST, 0.0))

    def test_by_the_steps_of_both(self):
        source = random.Random(33)
        c = [n for _ in range(20) for n in any_interval(source, lambda s: near_number(s, 3))]
        X = any_interval(source, lambda s: near_number(s, 1))
        found = c[-2:]
        for at in range(len(c) - 4, -1, -2):
            found = both(0, both(2, found, X)[1:], c[at:at + 2])[1:]
        self.assertEqual(powers(c, X), [0] + found)

    def test_zero_is_plus_0(self):
        self.check((1, 1, -1, -1), (1, 1), (0.0, 0.0))
        self.check((0, 0, -3, 3), (-0.0, -0.0), (0.0, 0.0))

    def test_beyond_the_greatest_number_or_not(self):
        self.check((0, 0, GREATEST, GREATEST), (1, 1), (GREATEST, GREATEST))
        self.check((0, 0, -GREATEST, GREATEST), (-1, 1), (-GREATEST, GREATEST))
        self.check((0, LEAST, GREATEST, GREATEST), (1, 1), -7)
        self.check((-LEAST, 0, -GREATEST, -GREATEST), (1, 1), -7)
        self.check((0, 0, GREATEST, GREATEST), (1, ABOVE_ONE), -7)
        self.check((0, 0, GREATEST, GREATEST), (-ABOVE_ONE, 0), -7)
        # On the way, though the last Y would be within.
        self.check((-GREATEST, -GREATEST, GREATEST, GREATEST), (2, 2), -7)
        self.check((0, 0, 1e300, 1e300, 1e300, 1e300), (-1e20, -1e20), -7)

    def test_how_many_c(self):
        self.assertEqual(powers([], [ONE] * 2), [-8])
        self.assertEqual(powers([ONE] * 2, [ONE] * 2), [0, ONE, ONE])
        self.assertEqual(powers([ONE] * 128, [ONE] * 2), [0, bits(64.0), bits(64.0)])
        self.assertEqual(powers([ONE] * 130, [ONE] * 2), [-8])
        for count in (1, 3, 127, 129):
            self.assertEqual(powers([ONE] * count, [ONE] * 2), [-8])

    def test_one_interval_x(self):
        for count in (0, 1, 3, 4):
            self.assertEqual(powers([ONE] * 2, [ONE] * count), [-8])
            self.assertEqual(powers([ONE] * 4, [ONE] * count), [-8])

    def test_wrong_comes_first(self):
        great = numbers_of((GREATEST, GREATEST))
        self.assertEqual(powers(great * 2, great), [-7])
        for wrong in (numbers_of((2, 1)), numbers_of((LEAST, 0)), [ONE, NOT_FINITE[0]], [NOT_FINITE[3], ONE]):
            self.assertEqual(powers(wrong, [ONE] * 2), [-8])
            self.assertEqual(powers([ONE] * 2, wrong), [-8])
            self.assertEqual(powers(wrong + great * 2, great), [-8])
            self.assertEqual(powers(great * 2 + wrong, great), [-8])
            self.assertEqual(powers(great * 2, wrong), [-8])

    def test_against_fractions(self):
        source = random.Random(32)
        seen = set()
        for size in SIZES + (lambda s: near_number(s, 2),):
            for _ in range(150):
                c = [n for _ in range(source.randrange(1, 7)) for n in any_interval(source, size)]
                X = any_interval(source, size)
                answer = true_powers(c, X)
                seen.add(answer[0])
                self.assertEqual(powers(c, X), answer, (c, X))
        self.assertEqual(seen, {0, -7})
