"""Loops in the plane: how they go round a point, and whether they cross themselves."""

from exactplaces.signs import side_sign
from exactplaces.stretches import AT_AN_END
from exactplaces.stretches import NOTHING
from exactplaces.stretches import crossing


def stretches_of(loop):
    return list(zip(loop, loop[1:] + loop[:1]))


# The ray from p to the right is crossed upwards where the loop goes leftwards
# round p, downwards where rightwards. An end at p's own height counts as above
# it, so a corner on the ray is not counted twice.
def turning(loop, p):
    turns_left = 0
    for start, end in stretches_of(loop):
        side = side_sign(start, end, p)
        # On a line the order by x, then y, is the order along it.
        if side == 0 and min(start, end) <= p <= max(start, end):
            return [1, 0]
        if side > 0 and start[1] <= p[1] < end[1]:
            turns_left += 1
        if side < 0 and end[1] <= p[1] < start[1]:
            turns_left -= 1
    return [0, turns_left]


# Neighbours have the end between them in common at any rate.
def is_allowed(stretches, one, other):
    first = stretches[one]
    second = stretches[other]
    are_neighbours = other - one in (1, len(stretches) - 1)
    allowed = AT_AN_END if are_neighbours else NOTHING
    return crossing(first[0], first[1], second[0], second[1]) == allowed


def simplicity(loop):
    stretches = stretches_of(loop)
    if any([start == end for start, end in stretches]):
        return 0
    for other in range(len(stretches)):
        for one in range(other):
            if not is_allowed(stretches, one, other):
                return 0
    return 1
