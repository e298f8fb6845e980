"""Exact values told: rounded to numbers, and these written by their bits.

An exact value is handed on as a pair, value and places: value / 2^places.
A number, once rounded, is kept as when read: a multiple of 2^-1074.
"""

from exactplaces.refusals import CantBeTold

NEAREST = 0
DOWN = 1
UP = 2
TOWARDS_ZERO = 3

NUMBER_BITS = 53
# How many binary places a number, and a product of two, is read with.
PLACES = 1074
PRODUCT_PLACES = 2148
TOP_EXPONENT = 1024
SIGN_BIT = 0x8000000000000000
# More than twice as many as a number and one half of its last bit have, so
# that neither a quotient nor a root of one can miss on which side of such a
# half it lies.
KEPT_BITS = 128


# The whole number that value / 2^places is rounded to.
def cut(value, places, way):
    if places <= 0:
        return value << -places
    whole = value >> places
    rest = value - (whole << places)
    if rest == 0 or way == DOWN:
        return whole
    if way == UP:
        return whole + 1
    if way == TOWARDS_ZERO:
        return whole + 1 if value < 0 else whole
    half = 1 << (places - 1)
    if rest > half or (rest == half and whole % 2 == 1):
        return whole + 1
    return whole


# A value beyond the greatest number is refused by every way: to the nearest
# if it is rounded beyond it, else as soon as it is beyond it itself.
def number_near(value, places, way):
    if value == 0:
        return 0
    kept = min(NUMBER_BITS + places - value.bit_length(), PLACES)
    number = cut(value, places - kept, way)
    widest = number if way == NEAREST else cut(abs(value), places - kept, UP)
    if widest.bit_length() - kept > TOP_EXPONENT:
        raise CantBeTold("beyond the greatest number")
    return number << (PLACES - kept)


def write_number(number):
    size = abs(number)
    # The hidden bit, left where it is, makes the exponent one more: as it
    # should be, for exponents 0 and 1 share one step.
    shift = max(size.bit_length() - NUMBER_BITS, 0)
    bits = (shift << (NUMBER_BITS - 1)) + (size >> shift)
    if number < 0:
        return bits + SIGN_BIT
    return bits


def told_by(way, values):
    numbers = [number_near(value, places, way) for value, places in values]
    return [0] + [write_number(number) for number in numbers]


def told(values):
    return told_by(NEAREST, values)


# A value between two steps is marked by a last bit 1 behind the lower step:
# it is rounded as what it stands for, since no number and no half between
# two numbers lies between the steps.
def marked(whole, places, is_more):
    return (2 * whole + (1 if is_more else 0), places + 1)


# Python's // goes down whatever the signs, so the lower step is met.
def quotient(dividend, divisor, places):
    shift = max(KEPT_BITS + divisor.bit_length() - dividend.bit_length(), 0)
    scaled = dividend << shift
    whole = scaled // divisor
    return marked(whole, places + shift, whole * divisor != scaled)


# From above, each step comes nearer to the root until the whole part is met.
def whole_root(value):
    if value == 0:
        return 0
    found = 1 << ((value.bit_length() + 1) // 2)
    nearer = (found + value // found) // 2
    while nearer < found:
        found = nearer
        nearer = (found + value // found) // 2
    return found


def root(value, places):
    shift = KEPT_BITS - value.bit_length()
    # Only an even count of places can be halved.
    if (places + shift) % 2 == 1:
        shift += 1
    scaled = cut(value, -shift, DOWN)
    whole = whole_root(scaled)
    is_more = whole * whole != scaled or cut(value, -shift, UP) != scaled
    return marked(whole, (places + shift) // 2, is_more)
