"""Of many points: the corners of their hull, and the nearest one."""

from exactplaces.algebra import square_between
from exactplaces.signs import side_sign


# One side of the hull: the places of the points that are left while walking by
# all in their order, dropping each corner that is not a turn to the left.
def tight_side(points, places):
    side = []
    for place in places:
        while len(side) > 1 and side_sign(points[side[-2]], points[side[-1]], points[place]) <= 0:
            side.pop()
        side.append(place)
    return side


# Sorted by height, then from the left, and of the same points the first alone.
def upward_places(points):
    found = {}
    for place, point in enumerate(points):
        found.setdefault((point[1], point[0]), place)
    return [found[key] for key in sorted(found)]


def hull_places(points):
    upward = upward_places(points)
    if len(upward) == 1:
        return upward
    downward = list(reversed(upward))
    return tight_side(points, upward)[:-1] + tight_side(points, downward)[:-1]


def hull_answer(points):
    places = hull_places(points)
    return [len(places)] + places


def nearest_place(p, points):
    squares = [square_between(p, point) for point in points]
    return squares.index(min(squares))
