"""What is in a solid, by the triangles of its skin: sums over these, as exact values."""

from exactplaces.algebra import determinant
from exactplaces.refusals import NotThere
from exactplaces.telling import PLACES
from exactplaces.telling import quotient

# The second moments in the order in which they are told.
AXIS_PAIRS = ((0, 0), (1, 1), (2, 2), (0, 1), (1, 2), (2, 0))
# Of each of the ten: how many numbers are multiplied, and what that is divided by.
FACTORS = (3, 4, 4, 4, 5, 5, 5, 5, 5, 5)
DIVISORS = (6, 24, 24, 24, 120, 120, 120, 120, 120, 120)


def axis_sums(corners):
    return [sum([corner[axis] for corner in corners]) for axis in (0, 1, 2)]


# The sum over all pairs of corners, each pair both ways round and each corner
# with itself twice: of x and y it is what's asked, of x and x just twice that.
# So all six have one divisor.
def second_moment(corners, sums, pair):
    own = sum([corner[pair[0]] * corner[pair[1]] for corner in corners])
    return sums[pair[0]] * sums[pair[1]] + own


def first_four(corners):
    volume = determinant(corners)
    return [volume] + [volume * total for total in axis_sums(corners)]


def all_ten(corners):
    four = first_four(corners)
    sums = axis_sums(corners)
    return four + [four[0] * second_moment(corners, sums, pair) for pair in AXIS_PAIRS]


def added_over(triangles, parts_of_one, count):
    totals = [0] * count
    for corners in triangles:
        totals = [total + part for total, part in zip(totals, parts_of_one(corners))]
    return totals


def solid_mass(triangles):
    totals = added_over(triangles, all_ten, 10)
    return [quotient(total, divisor, factors * PLACES)
            for total, divisor, factors in zip(totals, DIVISORS, FACTORS)]


# A first moment's 24 divided by the volume's 6 leaves the 4.
def solid_heart(triangles):
    totals = added_over(triangles, first_four, 4)
    if totals[0] == 0:
        raise NotThere("no middle of a solid without a volume")
    return [quotient(total, 4 * totals[0], PLACES) for total in totals[1:]]
