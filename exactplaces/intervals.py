"""Intervals: sets of real numbers, and the narrowest intervals that have them.

An interval is a pair of numbers, low and high. A span is a set's least and
greatest member as exact values (value and places), before it is rounded.
"""

from exactplaces.refusals import NotThere
from exactplaces.rounding import exact_quotient
from exactplaces.rounding import exact_root
from exactplaces.telling import DOWN
from exactplaces.telling import NEAREST
from exactplaces.telling import PLACES
from exactplaces.telling import PRODUCT_PLACES
from exactplaces.telling import UP
from exactplaces.telling import number_near
from exactplaces.telling import write_number


def span_of(low, high, places):
    return ((low, places), (high, places))


def narrowest(span):
    return (number_near(span[0][0], span[0][1], DOWN), number_near(span[1][0], span[1][1], UP))


def written(intervals):
    found = []
    for low, high in intervals:
        found.extend([write_number(low), write_number(high)])
    return found


def told_intervals(spans):
    return [0] + written([narrowest(span) for span in spans])


def has_zero(interval):
    return interval[0] <= 0 <= interval[1]


def negated(interval):
    return (-interval[1], -interval[0])


# Least and greatest product are products of ends, whatever the signs.
def product_ends(one, other):
    products = [x * y for x, y in ((one[0], other[0]), (one[0], other[1]), (one[1], other[0]), (one[1], other[1]))]
    return (min(products), max(products))


def sum_span(one, other):
    return span_of(one[0] + other[0], one[1] + other[1], PLACES)


def product_span(one, other):
    ends = product_ends(one, other)
    return span_of(ends[0], ends[1], PRODUCT_PLACES)


# With divisors above 0, what is below 0 grows as they grow, what is above
# shrinks; so it is the dividend's sign that tells which end is divided by.
def quotient_span(one, other):
    if has_zero(other):
        raise NotThere("0 is among the divisors")
    if other[1] < 0:
        return quotient_span(negated(one), negated(other))
    low = exact_quotient(one[0], other[1] if one[0] >= 0 else other[0])
    high = exact_quotient(one[1], other[0] if one[1] >= 0 else other[1])
    return (low, high)


def common_span(one, other):
    low = max(one[0], other[0])
    high = min(one[1], other[1])
    if low > high:
        raise NotThere("nothing is in both")
    return span_of(low, high, PLACES)


def span_of_both(op, one, other):
    if op == 0:
        return sum_span(one, other)
    if op == 1:
        return sum_span(one, negated(other))
    if op == 2:
        return product_span(one, other)
    if op == 3:
        return quotient_span(one, other)
    if op == 4:
        return span_of(min(one[0], other[0]), max(one[1], other[1]), PLACES)
    return common_span(one, other)


def both_answer(op, pair):
    return told_intervals([span_of_both(op, one, other) for one, other in zip(pair[0], pair[1])])


def sizes_of(interval):
    if interval[0] >= 0:
        return interval
    if interval[1] <= 0:
        return negated(interval)
    return (0, max(-interval[0], interval[1]))


# Both factors are the same x here: the square of its size, never below 0.
def square_span(interval):
    sizes = sizes_of(interval)
    return span_of(sizes[0] * sizes[0], sizes[1] * sizes[1], PRODUCT_PLACES)


def span_of_one(op, interval):
    if op == 0:
        return span_of(-interval[1], -interval[0], PLACES)
    if op == 1:
        sizes = sizes_of(interval)
        return span_of(sizes[0], sizes[1], PLACES)
    if op == 2:
        return square_span(interval)
    if op == 3:
        return (exact_root(interval[0]), exact_root(interval[1]))
    one = 1 << PLACES
    return quotient_span((one, one), interval)


def alone_answer(op, intervals):
    return told_intervals([span_of_one(op, interval) for interval in intervals])


# Every product has its own factors, so the least sum is that of the least
# products, and the greatest that of the greatest.
def weighed(ones, others):
    ends = [product_ends(one, other) for one, other in zip(ones, others)]
    return (sum([low for low, high in ends]), sum([high for low, high in ends]))


def weighed_span(ones, others):
    ends = weighed(ones, others)
    return span_of(ends[0], ends[1], PRODUCT_PLACES)


def weigh_answer(pair):
    return told_intervals([weighed_span(pair[0], pair[1])])


def rows_answer(square, column):
    return told_intervals([weighed_span(row, column) for row in square])


# Each step is rounded by itself, so it must be told before the next is taken.
def powers_answer(coefficients, interval):
    found = coefficients[-1]
    for coefficient in reversed(coefficients[:-1]):
        product = narrowest(product_span(found, interval))
        found = narrowest(sum_span(product, coefficient))
    return [0] + written([found])


# One place more halves the sum.
def middle_of(interval):
    return number_near(interval[0] + interval[1], PLACES + 1, NEAREST)


def reach_from(middle, interval):
    return number_near(max(middle - interval[0], interval[1] - middle), PLACES, UP)


def middles_answer(intervals):
    middles = [middle_of(interval) for interval in intervals]
    reaches = [reach_from(middle, interval) for middle, interval in zip(middles, intervals)]
    return [0] + [write_number(number) for number in middles + reaches]


def order_of(one, other):
    if one[1] < other[0]:
        return -1
    if one[0] > other[1]:
        return 1
    return 0


def order_answer(pair):
    return [0] + [order_of(one, other) for one, other in zip(pair[0], pair[1])]
