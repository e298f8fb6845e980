"""Sums over rows, and determinants, as exact values: value and places."""

from exactplaces.algebra import determinant
from exactplaces.algebra import product_sum
from exactplaces.refusals import NotThere
from exactplaces.telling import NEAREST
from exactplaces.telling import PLACES
from exactplaces.telling import PRODUCT_PLACES
from exactplaces.telling import number_near
from exactplaces.telling import quotient
from exactplaces.telling import root
from exactplaces.telling import write_number


def row_sum(row):
    return (sum(row), PLACES)


def row_dot(pair):
    return (product_sum(pair[0], pair[1]), PRODUCT_PLACES)


def row_norm(row):
    return root(product_sum(row, row), PRODUCT_PLACES)


def row_ratio(dividends, divisors):
    divisor = product_sum(divisors[0], divisors[1])
    if divisor == 0:
        raise NotThere("no quotient by 0")
    return quotient(product_sum(dividends[0], dividends[1]), divisor, 0)


# What is left is a whole number of the least number's size, and less each
# time; so it ends.
def row_parts(row):
    left = sum(row)
    found = []
    while left != 0:
        part = number_near(left, PLACES, NEAREST)
        found.append(write_number(part))
        left -= part
    return [len(found)] + found


def square_determinant(rows):
    return (determinant(rows), len(rows) * PLACES)
