"""Places that points, lines and planes tell, each coordinate as an exact value: value and places."""

from exactplaces.algebra import cross_product
from exactplaces.algebra import determinant
from exactplaces.algebra import product_sum
from exactplaces.algebra import way_between
from exactplaces.refusals import NotThere
from exactplaces.signs import side_value
from exactplaces.telling import PLACES
from exactplaces.telling import PRODUCT_PLACES
from exactplaces.telling import quotient
from exactplaces.telling import root


# The point at that share of the way from the start.
def place_on_way(start, way, dividend, divisor):
    if divisor == 0:
        raise NotThere("no such place")
    return [quotient(x * divisor + step * dividend, divisor, PLACES) for x, step in zip(start, way)]


# Twice the triangle's area divided by its base; squared, so that just one
# root is taken, of an exact quotient.
def line_distance(p, a, b):
    base = way_between(a, b)
    if not any(base):
        raise NotThere("no line through one point")
    doubled = side_value(a, b, p)
    square = quotient(doubled * doubled, product_sum(base, base), PRODUCT_PLACES)
    return root(square[0], square[1])


# The divisor is 0 if the lines are parallel, and if one of them is a point.
def meeting_place(a, b, c, d):
    one = way_between(a, b)
    other = way_between(c, d)
    return place_on_way(a, one, determinant([way_between(a, c), other]), determinant([one, other]))


def foot_place(p, a, b):
    along = way_between(a, b)
    return place_on_way(a, along, product_sum(way_between(a, p), along), product_sum(along, along))


# The divisor is 0 if the line is parallel to the plane, if it is a point, and
# if there is no plane.
def cutting_place(a, b, c, d, e):
    normal = cross_product(way_between(a, b), way_between(a, c))
    along = way_between(d, e)
    return place_on_way(d, along, product_sum(normal, way_between(d, a)), product_sum(normal, along))


def with_column(rows, column, entries):
    return [row[:column] + [entry] + row[column + 1:] for row, entry in zip(rows, entries)]


# Seen from the first point, the centre lies halfway along each way to another:
# as many equations as coordinates, of a circle and of a sphere alike. They are
# solved by Cramer's rule; its divisor is 0 if the points lie on one line (in
# one plane).
def centre_place(first, others):
    ways = [way_between(first, other) for other in others]
    squares = [product_sum(way, way) for way in ways]
    steps = [determinant(with_column(ways, column, squares)) for column in range(len(first))]
    return place_on_way(first, steps, 1, 2 * determinant(ways))


def normal_way(a, b, c):
    return [(part, PRODUCT_PLACES) for part in cross_product(way_between(a, b), way_between(a, c))]
