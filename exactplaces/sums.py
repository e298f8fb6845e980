"""Sums over rows, as exact values: value and places."""

from exactplaces.algebra import product_sum
from exactplaces.telling import PLACES
from exactplaces.telling import PRODUCT_PLACES
from exactplaces.telling import root


def row_sum(row):
    return (sum(row), PLACES)


def row_dot(pair):
    return (product_sum(pair[0], pair[1]), PRODUCT_PLACES)


def row_norm(row):
    return root(product_sum(row, row), PRODUCT_PLACES)
