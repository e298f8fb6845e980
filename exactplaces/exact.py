"""The calls: each takes numbers by their bits and gives back one list."""

from exactplaces.clouds import hull_answer
from exactplaces.clouds import nearest_place
from exactplaces.intervals import alone_answer
from exactplaces.intervals import both_answer
from exactplaces.intervals import middles_answer
from exactplaces.intervals import order_answer
from exactplaces.intervals import powers_answer
from exactplaces.intervals import rows_answer
from exactplaces.intervals import weigh_answer
from exactplaces.loops import simplicity
from exactplaces.loops import turning
from exactplaces.measures import distance
from exactplaces.measures import loop_area
from exactplaces.measures import loop_heart
from exactplaces.newton_step import newton_answer
from exactplaces.places import centre_place
from exactplaces.places import cutting_place
from exactplaces.places import foot_place
from exactplaces.places import line_distance
from exactplaces.places import meeting_place
from exactplaces.places import normal_way
from exactplaces.reading import read_choice
from exactplaces.reading import read_interval_row
from exactplaces.reading import read_interval_square
from exactplaces.reading import read_intervals
from exactplaces.reading import read_loop
from exactplaces.reading import read_numbers
from exactplaces.reading import read_point
from exactplaces.reading import read_points
from exactplaces.reading import read_row
from exactplaces.reading import read_square
from exactplaces.reading import read_triangles
from exactplaces.reading import read_two_interval_rows
from exactplaces.reading import read_two_rows
from exactplaces.reading import read_way
from exactplaces.reading import read_wholes
from exactplaces.refusals import answered
from exactplaces.rounding import grid_answer
from exactplaces.rounding import number_answer
from exactplaces.rounding import pick_answer
from exactplaces.rounding import rounded_answer
from exactplaces.rounding import whole_answer
from exactplaces.signs import above_sign
from exactplaces.signs import angle_sign
from exactplaces.signs import circle_sign
from exactplaces.signs import longer_sign
from exactplaces.signs import nearer_sign
from exactplaces.signs import side_sign
from exactplaces.signs import sphere_sign
from exactplaces.solids import solid_heart
from exactplaces.solids import solid_mass
from exactplaces.stretches import crossing
from exactplaces.sums import row_dot
from exactplaces.sums import row_norm
from exactplaces.sums import row_parts
from exactplaces.sums import row_ratio
from exactplaces.sums import row_sum
from exactplaces.sums import square_determinant
from exactplaces.telling import told
from exactplaces.triangles import piercing


def side(a, b, c):
    return answered(lambda: [side_sign(read_point(2, a), read_point(2, b), read_point(2, c))])


def circle(a, b, c, d):
    return answered(lambda: [circle_sign(
        read_point(2, a), read_point(2, b), read_point(2, c), read_point(2, d))])


def above(a, b, c, d):
    return answered(lambda: [above_sign(
        read_point(3, a), read_point(3, b), read_point(3, c), read_point(3, d))])


def sphere(a, b, c, d, e):
    return answered(lambda: [sphere_sign(
        read_point(3, a), read_point(3, b), read_point(3, c), read_point(3, d), read_point(3, e))])


def angle(k, a, b, c):
    return answered(lambda: [angle_sign(read_point(k, a), read_point(k, b), read_point(k, c))])


def nearer(k, p, a, b):
    return answered(lambda: [nearer_sign(read_point(k, p), read_point(k, a), read_point(k, b))])


def longer(k, a, b, c, d):
    return answered(lambda: [longer_sign(
        read_point(k, a), read_point(k, b), read_point(k, c), read_point(k, d))])


def cross(a, b, c, d):
    return answered(lambda: [crossing(
        read_point(2, a), read_point(2, b), read_point(2, c), read_point(2, d))])


def pierce(a, b, c, d, e):
    return answered(lambda: [piercing(
        read_point(3, a), read_point(3, b), read_point(3, c), read_point(3, d), read_point(3, e))])


def turns(loop, p):
    return answered(lambda: [0] + turning(read_loop(loop, 512), read_point(2, p)))


def simple(loop):
    return answered(lambda: [simplicity(read_loop(loop, 128))])


def hull(points):
    return answered(lambda: hull_answer(read_points(2, points, 1, 256)))


def nearest(k, p, points):
    return answered(lambda: [nearest_place(read_point(k, p), read_points(k, points, 1, 4096))])


def sum_of(x):
    return answered(lambda: told([row_sum(read_row(x))]))


def dot(x, y):
    return answered(lambda: told([row_dot(read_two_rows(x, y))]))


def norm(x):
    return answered(lambda: told([row_norm(read_row(x))]))


def ratio(x, y, u, v):
    return answered(lambda: told([row_ratio(read_two_rows(x, y), read_two_rows(u, v))]))


def parts(x):
    return answered(lambda: row_parts(read_numbers(x, 0, 256)))


def det(n, numbers):
    return answered(lambda: told([square_determinant(read_square(read_choice(n, 1, 5), numbers))]))


def area(loop):
    return answered(lambda: told([loop_area(read_loop(loop, 512))]))


def heart(loop):
    return answered(lambda: told(loop_heart(read_loop(loop, 512))))


def mass(points, triangles):
    return answered(lambda: told(solid_mass(read_triangles(points, triangles))))


def heart3(points, triangles):
    return answered(lambda: told(solid_heart(read_triangles(points, triangles))))


def apart(k, a, b):
    return answered(lambda: told([distance(read_point(k, a), read_point(k, b))]))


def off(p, a, b):
    return answered(lambda: told([line_distance(read_point(2, p), read_point(2, a), read_point(2, b))]))


def meet(a, b, c, d):
    return answered(lambda: told(meeting_place(
        read_point(2, a), read_point(2, b), read_point(2, c), read_point(2, d))))


def foot(k, p, a, b):
    return answered(lambda: told(foot_place(read_point(k, p), read_point(k, a), read_point(k, b))))


def centre(a, b, c):
    return answered(lambda: told(centre_place(read_point(2, a), [read_point(2, b), read_point(2, c)])))


def centre3(a, b, c, d):
    return answered(lambda: told(centre_place(
        read_point(3, a), [read_point(3, b), read_point(3, c), read_point(3, d)])))


def cutting(a, b, c, d, e):
    return answered(lambda: told(cutting_place(
        read_point(3, a), read_point(3, b), read_point(3, c), read_point(3, d), read_point(3, e))))


def normal(a, b, c):
    return answered(lambda: told(normal_way(read_point(3, a), read_point(3, b), read_point(3, c))))


def grid(k, way, x):
    return answered(lambda: grid_answer(read_choice(k, 0, 15), read_way(way), read_row(x)))


def whole(kind, way, x):
    return answered(lambda: whole_answer(read_choice(kind, 0, 3), read_way(way), read_row(x)))


def number(way, x):
    return answered(lambda: number_answer(read_way(way), read_wholes(x)))


def pick(op, x, y):
    return answered(lambda: pick_answer(read_choice(op, 0, 3), read_two_rows(x, y)))


def rounded(op, way, x, y):
    return answered(lambda: rounded_answer(read_choice(op, 0, 4), read_way(way), read_two_rows(x, y)))


def both(op, X, Y):
    return answered(lambda: both_answer(read_choice(op, 0, 5), read_two_interval_rows(X, Y)))


def alone(op, X):
    return answered(lambda: alone_answer(read_choice(op, 0, 4), read_interval_row(X)))


def weigh(X, Y):
    return answered(lambda: weigh_answer(read_two_interval_rows(X, Y)))


def rows(n, A, X):
    return answered(lambda: rows_answer(
        read_interval_square(read_choice(n, 1, 16), A), read_intervals(X, n, n)))


def powers(c, X):
    return answered(lambda: powers_answer(read_intervals(c, 1, 64), read_intervals(X, 1, 1)[0]))


def middles(X):
    return answered(lambda: middles_answer(read_interval_row(X)))


def order(X, Y):
    return answered(lambda: order_answer(read_two_interval_rows(X, Y)))


def newton(n, X, f, J, M):
    return answered(lambda: newton_answer(
        read_intervals(X, read_choice(n, 1, 8), n), read_intervals(f, n, n),
        read_interval_square(n, J), read_square(n, M)))
