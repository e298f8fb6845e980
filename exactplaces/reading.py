"""What is handed in, looked through and read as exact whole numbers.

Every finite double is a whole multiple of the least one above 0, 2^-1074.
A number is kept as how many of these it is: so sums, differences and
products are Python's own, and nothing is ever rounded.
"""

from exactplaces.refusals import WrongInput

FRACTION_MASK = 0xFFFFFFFFFFFFF
HIDDEN_BIT = 0x10000000000000
EXPONENT_MASK = 2047
MOST_IN_ROW = 4096
MOST_INTERVALS = 2048


def read_number(bits):
    exponent = (bits >> 52) & EXPONENT_MASK
    if exponent == EXPONENT_MASK or bits >> 64 != 0:
        raise WrongInput("no finite number")
    size = bits & FRACTION_MASK
    # Exponents 0 and 1 share one step; only from 1 on is the hidden bit there.
    if exponent > 0:
        size = (size + HIDDEN_BIT) << (exponent - 1)
    if bits >> 63 == 1:
        return -size
    return size


def read_choice(value, least, most):
    if value < least or value > most:
        raise WrongInput("a count or a choice out of its range")
    return value


def read_way(way):
    return read_choice(way, 0, 3)


def read_numbers(numbers, least, most):
    read_choice(len(numbers), least, most)
    return [read_number(bits) for bits in numbers]


def read_row(row):
    return read_numbers(row, 0, MOST_IN_ROW)


def same_length(one, other):
    if len(one) != len(other):
        raise WrongInput("two rows of different lengths")
    return [one, other]


def read_two_rows(one, other):
    return same_length(read_row(one), read_row(other))


def read_dimension(k):
    if k not in (2, 3):
        raise WrongInput("a point has two or three coordinates")
    return k


def read_point(k, coordinates):
    return read_numbers(coordinates, read_dimension(k), k)


def in_groups(flat, size):
    if len(flat) % size != 0:
        raise WrongInput("the last one is there in part only")
    return [flat[start:start + size] for start in range(0, len(flat), size)]


def read_points(k, coordinates, least, most):
    numbers = read_numbers(coordinates, least * read_dimension(k), most * k)
    return in_groups(numbers, k)


def read_loop(loop, most):
    return read_points(2, loop, 3, most)


def read_square(n, numbers):
    return in_groups(read_numbers(numbers, n * n, n * n), n)


# Each triangle as its three points.
def read_triangles(coordinates, triangles):
    points = read_points(3, coordinates, 1, 4096)
    read_choice(len(triangles), 3, 3 * 2048)
    corners = [points[read_choice(place, 0, len(points) - 1)] for place in triangles]
    return in_groups(corners, 3)


def read_wholes(wholes):
    read_choice(len(wholes), 0, MOST_IN_ROW)
    return [read_choice(whole, -(2 ** 63), 2 ** 64 - 1) for whole in wholes]


def read_intervals(ends, least, most):
    intervals = in_groups(read_numbers(ends, 2 * least, 2 * most), 2)
    for low, high in intervals:
        if low > high:
            raise WrongInput("a low above its high")
    return intervals


def read_interval_row(ends):
    return read_intervals(ends, 0, MOST_INTERVALS)


def read_two_interval_rows(one, other):
    return same_length(read_interval_row(one), read_interval_row(other))


def read_interval_square(n, ends):
    return in_groups(read_intervals(ends, n * n, n * n), n)
