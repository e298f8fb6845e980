"""How two stretches in the plane cross."""

from exactplaces.signs import side_sign

NOTHING = 0
WITHIN_BOTH = 1
AT_AN_END = 2
A_PIECE = 3


def crossing(a, b, c, d):
    c_side = side_sign(a, b, c)
    d_side = side_sign(a, b, d)
    a_side = side_sign(c, d, a)
    b_side = side_sign(c, d, b)
    if not any([c_side, d_side, a_side, b_side]):
        return overlap_on_line(a, b, c, d)
    if c_side * d_side > 0 or a_side * b_side > 0:
        return NOTHING
    # Not all on one line, so the common point is the only one; an end that
    # has no side lies on the other's line, hence is that point.
    if c_side * d_side == 0 or a_side * b_side == 0:
        return AT_AN_END
    return WITHIN_BOTH


# Along a line the order by x, then y, is the order on the line, whichever way
# it runs; so the piece in common is found by comparing the ends alone.
def overlap_on_line(a, b, c, d):
    first = max(min(a, b), min(c, d))
    last = min(max(a, b), max(c, d))
    if first > last:
        return NOTHING
    if first == last:
        return AT_AN_END
    return A_PIECE
