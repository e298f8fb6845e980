"""The signs that tell where points lie; points are lists of whole numbers.

A sign is the same in any unit, so the unit that points are read in is of no
concern here.
"""

from exactplaces.algebra import determinant
from exactplaces.algebra import product_sum
from exactplaces.algebra import sign_of
from exactplaces.algebra import square_between
from exactplaces.algebra import way_between
from exactplaces.refusals import NotThere


def side_value(a, b, c):
    return determinant([way_between(a, b), way_between(a, c)])


def side_sign(a, b, c):
    return sign_of(side_value(a, b, c))


def above_sign(a, b, c, d):
    return sign_of(determinant([way_between(a, b), way_between(a, c), way_between(a, d)]))


# Each point is lifted by the square of its way from the asked point, which
# stays at the bottom. Lifted so, a circle (a sphere) lies in one plane; the
# asked point is on that plane if on the circle, on either side if not.
def lifted_sign(points, asked):
    rows = []
    for point in points:
        way = way_between(asked, point)
        rows.append(way + [product_sum(way, way)])
    return sign_of(determinant(rows))


# The lifted sign turns with the way round in which a, b, c are handed in;
# their own sign turns likewise, so the product doesn't.
def circle_sign(a, b, c, d):
    way_round = side_sign(a, b, c)
    if way_round == 0:
        raise NotThere("no circle through points of one line")
    return way_round * lifted_sign([a, b, c], d)


# As circle_sign; in space the two signs are opposite for a point inside.
def sphere_sign(a, b, c, d, e):
    way_round = above_sign(a, b, c, d)
    if way_round == 0:
        raise NotThere("no sphere through points of one plane")
    return -way_round * lifted_sign([a, b, c, d], e)


def angle_sign(a, b, c):
    return sign_of(product_sum(way_between(a, b), way_between(a, c)))


# Squares of lengths stand in the same order as the lengths.
def longer_sign(a, b, c, d):
    return sign_of(square_between(a, b) - square_between(c, d))


def nearer_sign(p, a, b):
    return longer_sign(p, b, p, a)
