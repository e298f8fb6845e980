"""Numbers rounded by a way that is asked, and numbers picked."""

from exactplaces.refusals import CantBeTold
from exactplaces.refusals import NotThere
from exactplaces.telling import PLACES
from exactplaces.telling import PRODUCT_PLACES
from exactplaces.telling import cut
from exactplaces.telling import quotient
from exactplaces.telling import root
from exactplaces.telling import told
from exactplaces.telling import told_by


# Every multiple that is met is a number: a number that is no multiple itself
# lies so near to 0 that its neighbours among them have few bits.
def grid_answer(k, way, row):
    multiples = [cut(x, PLACES - k, way) << (PLACES - k) for x in row]
    left = [x - multiple for x, multiple in zip(row, multiples)]
    return told([(value, PLACES) for value in multiples + left])


# From the first to the last of them, as Python's range has them.
def wholes_of_kind(kind):
    if kind == 0:
        return (-(2 ** 31), 2 ** 31)
    if kind == 1:
        return (0, 2 ** 32)
    if kind == 2:
        return (-(2 ** 63), 2 ** 63)
    return (0, 2 ** 64)


def whole_answer(kind, way, row):
    bounds = wholes_of_kind(kind)
    wholes = [cut(x, PLACES, way) for x in row]
    if not all([bounds[0] <= whole < bounds[1] for whole in wholes]):
        raise CantBeTold("beyond the whole numbers of this kind")
    return [0] + wholes


def number_answer(way, wholes):
    return told_by(way, [(whole, 0) for whole in wholes])


# By size, and among those of one size by value.
def size_key(x):
    return (abs(x), x)


def picked(op, x, y):
    if op == 0:
        return min(x, y)
    if op == 1:
        return max(x, y)
    if op == 2:
        return min(x, y, key=size_key)
    return max(x, y, key=size_key)


def pick_answer(op, pair):
    return told([(picked(op, x, y), PLACES) for x, y in zip(pair[0], pair[1])])


def exact_quotient(x, y):
    if y == 0:
        raise NotThere("no quotient by 0")
    return quotient(x, y, 0)


def exact_root(x):
    if x < 0:
        raise NotThere("no root of what is below 0")
    return root(x, PLACES)


def exact_value(op, x, y):
    if op == 0:
        return (x + y, PLACES)
    if op == 1:
        return (x - y, PLACES)
    if op == 2:
        return (x * y, PRODUCT_PLACES)
    if op == 3:
        return exact_quotient(x, y)
    return exact_root(x)


def rounded_answer(op, way, pair):
    return told_by(way, [exact_value(op, x, y) for x, y in zip(pair[0], pair[1])])
