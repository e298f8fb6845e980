"""The calls: each takes numbers by their bits and gives back one list."""

from exactplaces.reading import read_point
from exactplaces.refusals import answered
from exactplaces.signs import above_sign
from exactplaces.signs import angle_sign
from exactplaces.signs import circle_sign
from exactplaces.signs import longer_sign
from exactplaces.signs import nearer_sign
from exactplaces.signs import side_sign
from exactplaces.signs import sphere_sign
from exactplaces.stretches import crossing


def side(a, b, c):
    return answered(lambda: [side_sign(read_point(2, a), read_point(2, b), read_point(2, c))])


def circle(a, b, c, d):
    return answered(lambda: [circle_sign(
        read_point(2, a), read_point(2, b), read_point(2, c), read_point(2, d))])


def above(a, b, c, d):
    return answered(lambda: [above_sign(
        read_point(3, a), read_point(3, b), read_point(3, c), read_point(3, d))])


def sphere(a, b, c, d, e):
    return answered(lambda: [sphere_sign(
        read_point(3, a), read_point(3, b), read_point(3, c), read_point(3, d), read_point(3, e))])


def angle(k, a, b, c):
    return answered(lambda: [angle_sign(read_point(k, a), read_point(k, b), read_point(k, c))])


def nearer(k, p, a, b):
    return answered(lambda: [nearer_sign(read_point(k, p), read_point(k, a), read_point(k, b))])


def longer(k, a, b, c, d):
    return answered(lambda: [longer_sign(
        read_point(k, a), read_point(k, b), read_point(k, c), read_point(k, d))])


def cross(a, b, c, d):
    return answered(lambda: [crossing(
        read_point(2, a), read_point(2, b), read_point(2, c), read_point(2, d))])
