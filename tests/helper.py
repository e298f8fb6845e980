"""What the tests share: numbers by their bits, and wrong inputs."""

import struct
from fractions import Fraction

LEAST = 5e-324
LEAST_NORMAL = 2.0 ** -1022
GREATEST = 1.7976931348623157e308
BELOW_GREATEST = 1.7976931348623155e308
ABOVE_ONE = 1.0 + 2.0 ** -52
BELOW_ONE = 1.0 - 2.0 ** -53

INFINITY = 0x7FF0000000000000
SIGN = 1 << 63
NOT_FINITE = (
    INFINITY,
    INFINITY | SIGN,
    INFINITY + 1,
    (INFINITY + 1) | SIGN,
    0x7FF8000000000000,
    0xFFF8000000000000,
    0x7FFFFFFFFFFFFFFF,
    0xFFFFFFFFFFFFFFFF,
)

# Both zeros, neighbours in the last bit, the least and the greatest numbers,
# and those where the steps between numbers begin to grow.
EXTREMES = (
    0.0, -0.0, LEAST, -LEAST, 2 * LEAST, LEAST_NORMAL, -LEAST_NORMAL,
    LEAST_NORMAL - LEAST, LEAST_NORMAL + LEAST, 2 * LEAST_NORMAL,
    1.0, -1.0, ABOVE_ONE, BELOW_ONE, -ABOVE_ONE, 0.1, 3.0, 1e-160, 1e160,
    GREATEST, -GREATEST, BELOW_GREATEST, GREATEST / 2,
)
SMALL = (0.0, -0.0, 1.0, 2.0, 3.0, -1.0, -2.0)


def bits(x):
    return struct.unpack("<Q", struct.pack("<d", x))[0]


def point(*coordinates):
    return [bits(float(x)) for x in coordinates]


def exact_point(coordinates):
    return [Fraction(x) for x in coordinates]


def random_points(source, count, k, values):
    return [[source.choice(values) for _ in range(k)] for _ in range(count)]


# What is no number at all has no sign.
def sign(x):
    return (x > 0) - (x < 0) if x == x else None


# The coordinates of each point, one point's behind another's.
def joined(points):
    return [number for p in points for number in point(*p)]


# Any finite double, by its bits.
def any_number(source):
    while True:
        number = source.getrandbits(64)
        if number & INFINITY != INFINITY:
            return number


# Numbers near to one another in size, with many bits or few, so that rounding
# and cancelling matter.
def near_number(source, spread=40):
    exponent = 1023 + source.randrange(-spread, spread + 1)
    empty = source.choice((0, 0, 26, 50))
    return source.getrandbits(1) << 63 | exponent << 52 | source.getrandbits(52 - empty) << empty


# Some interval, by the bits of its low and its high: a point now and then.
def any_interval(source, number):
    ends = [number(source), number(source)]
    if source.randrange(6) == 0:
        ends[1] = ends[0]
    return sorted(ends, key=order_key)


# Bits in the order of their numbers.
def order_key(number):
    return -(number & ~SIGN) if number & SIGN else number


def some_edge(source):
    return bits(source.choice(EXTREMES))


def some_small(source):
    return bits(source.choice(SMALL))


SIZES = (near_number, any_number, some_edge, some_small)
