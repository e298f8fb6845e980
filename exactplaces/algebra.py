"""Exact reckoning with lists of whole numbers."""


def sign_of(value):
    if value > 0:
        return 1
    if value < 0:
        return -1
    return 0


def way_between(a, b):
    return [y - x for x, y in zip(a, b)]


def product_sum(a, b):
    return sum([x * y for x, y in zip(a, b)])


def square_between(a, b):
    way = way_between(a, b)
    return product_sum(way, way)


def cross_product(a, b):
    return [a[1] * b[2] - a[2] * b[1], a[2] * b[0] - a[0] * b[2], a[0] * b[1] - a[1] * b[0]]


def without_column(rows, column):
    return [row[:column] + row[column + 1:] for row in rows]


def determinant(rows):
    if len(rows) == 1:
        return rows[0][0]
    total = 0
    for column, entry in enumerate(rows[0]):
        term = entry * determinant(without_column(rows[1:], column))
        if column % 2 == 0:
            total += term
        else:
            total -= term
    return total
