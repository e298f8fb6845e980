"""Numbers and points as they are handed in, read as exact whole numbers.

Every finite double is a whole multiple of the least one above 0, 2^-1074.
A number is kept as how many of these it is: so sums, differences and
products are Python's own, and nothing is ever rounded.
"""

from exactplaces.refusals import WrongInput

FRACTION_MASK = 0xFFFFFFFFFFFFF
HIDDEN_BIT = 0x10000000000000
EXPONENT_MASK = 2047


def read_number(bits):
    exponent = (bits >> 52) & EXPONENT_MASK
    if exponent == EXPONENT_MASK:
        raise WrongInput("no finite number")
    size = bits & FRACTION_MASK
    # Exponents 0 and 1 share one step; only from 1 on is the hidden bit there.
    if exponent > 0:
        size = (size + HIDDEN_BIT) << (exponent - 1)
    if bits >> 63 == 1:
        return -size
    return size


def read_point(k, coordinates):
    if k not in (2, 3):
        raise WrongInput("a point has two or three coordinates")
    if len(coordinates) != k:
        raise WrongInput("too few or too many coordinates")
    return [read_number(bits) for bits in coordinates]
