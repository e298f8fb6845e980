"""How a stretch in space pierces a triangle."""

from exactplaces.algebra import cross_product
from exactplaces.algebra import product_sum
from exactplaces.algebra import sign_of
from exactplaces.algebra import way_between
from exactplaces.refusals import NotThere
from exactplaces.signs import above_sign
from exactplaces.signs import side_value

NOTHING = 0
WITHIN_BOTH = 1
JUST_ONE = 2
A_PIECE = 3


def piercing(a, b, c, d, e):
    normal = cross_product(way_between(c, d), way_between(c, e))
    if not any(normal):
        raise NotThere("no triangle of points on one line")
    a_side = sign_of(product_sum(normal, way_between(c, a)))
    b_side = sign_of(product_sum(normal, way_between(c, b)))
    if a_side * b_side < 0:
        return through_plane(a, b, c, d, e)
    if a_side * b_side > 0:
        return NOTHING
    # What the stretch has of the plane: all of it, or one end.
    first = a if a_side == 0 else b
    last = b if b_side == 0 else a
    return piece_in_triangle(flattened([first, last], normal), flattened([c, d, e], normal))


# The plane is met in one point within the stretch; seen along the stretch,
# it is inside the triangle if the three sides pass it all the same way round.
def through_plane(a, b, c, d, e):
    ways_round = [above_sign(a, b, c, d), above_sign(a, b, d, e), above_sign(a, b, e, c)]
    if 1 in ways_round and -1 in ways_round:
        return NOTHING
    if 0 in ways_round:
        return JUST_ONE
    return WITHIN_BOTH


# Seen along an axis that is not in the plane, no two points of the plane fall
# together, so two coordinates are enough.
def flattened(points, normal):
    axis = [place for place, part in enumerate(normal) if part != 0][0]
    return [point[:axis] + point[axis + 1:] for point in points]


# Along the way from first to last, the share of the way at which a side of the
# triangle is met bounds the piece within; shares are kept as dividend, divisor.
def piece_in_triangle(stretch, corners):
    way_round = sign_of(side_value(corners[0], corners[1], corners[2]))
    enters = (0, 1)
    leaves = (1, 1)
    for start, end in zip(corners, corners[1:] + corners[:1]):
        first = way_round * side_value(start, end, stretch[0])
        last = way_round * side_value(start, end, stretch[1])
        if first < 0 and last < 0:
            return NOTHING
        if first < 0:
            enters = later_share(enters, (-first, last - first))
        elif last < 0:
            leaves = earlier_share(leaves, (first, first - last))
    return kind_of_piece(enters, leaves, stretch[0] == stretch[1])


def share_order(one, other):
    return sign_of(one[0] * other[1] - other[0] * one[1])


def later_share(one, other):
    return one if share_order(one, other) > 0 else other


def earlier_share(one, other):
    return one if share_order(one, other) < 0 else other


# In the triangle's plane a single point in common is on the rim or is all of
# the stretch: never within both.
def kind_of_piece(enters, leaves, is_point):
    order = share_order(enters, leaves)
    if order > 0:
        return NOTHING
    if order == 0 or is_point:
        return JUST_ONE
    return A_PIECE
