"""Areas, middles and lengths, as exact values: value and places."""

from exactplaces.algebra import square_between
from exactplaces.loops import stretches_of
from exactplaces.refusals import NotThere
from exactplaces.telling import PLACES
from exactplaces.telling import PRODUCT_PLACES
from exactplaces.telling import quotient
from exactplaces.telling import root


# Twice the area that each of the loop's stretches spans with the origin.
def doubled_areas(loop):
    return [start[0] * end[1] - start[1] * end[0] for start, end in stretches_of(loop)]


# One place more halves it.
def loop_area(loop):
    return (sum(doubled_areas(loop)), PRODUCT_PLACES + 1)


def loop_heart(loop):
    areas = doubled_areas(loop)
    total = sum(areas)
    if total == 0:
        raise NotThere("no middle of a loop without an area")
    return [loop_middle(loop, areas, 3 * total, axis) for axis in (0, 1)]


def loop_middle(loop, areas, divisor, axis):
    moment = 0
    for stretch, doubled in zip(stretches_of(loop), areas):
        moment += (stretch[0][axis] + stretch[1][axis]) * doubled
    return quotient(moment, divisor, PLACES)


def distance(a, b):
    return root(square_between(a, b), PRODUCT_PLACES)
