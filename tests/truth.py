"""What the document asks, reckoned by exact fractions and by other ways than the program's."""

import math
import struct
from fractions import Fraction

from helper import GREATEST, bits

# Binary places that a root is reckoned to: far more than any number has.
ROOT_PLACES = 1400


def value_of(number):
    return Fraction(struct.unpack("<d", struct.pack("<Q", number))[0])


def values_of(numbers):
    return [value_of(number) for number in numbers]


def numbers_of(values):
    return [bits(float(x)) for x in values]


# The bits of the nearest number, or None where it can't be told. Python
# divides whole numbers rounding once, to the nearest, and raises if that
# would be beyond the greatest number; adding +0 makes -0 a +0.
def told(value):
    value = Fraction(value)
    try:
        return bits(value.numerator / value.denominator + 0.0)
    except OverflowError:
        return None


# As good as the root for telling and rounding: cut off far behind the last
# bit of any number, with one more bit if something was cut off.
def root_of(value):
    value = Fraction(value)
    scaled = value * 4 ** ROOT_PLACES
    whole = math.isqrt(scaled.numerator // scaled.denominator)
    more = 0 if whole * whole == scaled else 1
    return Fraction(2 * whole + more, 2 ** (ROOT_PLACES + 1))


# The answer of a call that tells these values.
def answer_of(values):
    numbers = [told(value) for value in values]
    return [-7] if None in numbers else [0] + numbers


# The greatest number that is no more than the value, by its bits; None where
# the value is beyond the greatest number in size.
def rounded_down(value):
    value = Fraction(value)
    if abs(value) > Fraction(GREATEST):
        return None
    x = value.numerator / value.denominator
    return bits((x if Fraction(x) <= value else math.nextafter(x, -math.inf)) + 0.0)


def rounded_up(value):
    down = rounded_down(-Fraction(value))
    return None if down is None else told(-value_of(down))


def rounded_by(way, value):
    if way == 0:
        return told(value)
    if way == 1 or (way == 3 and value > 0):
        return rounded_down(value)
    return rounded_up(value)


# All t with low <= start + t * slope (<= high), cut from those of the span.
def clipped(span, start, slope, low, high=None):
    if span is None:
        return None
    if slope == 0:
        return span if low <= start and (high is None or start <= high) else None
    ends = [Fraction(low - start) / slope]
    if high is not None:
        ends.append(Fraction(high - start) / slope)
        first, last = max(span[0], min(ends)), min(span[1], max(ends))
    elif slope > 0:
        first, last = max(span[0], ends[0]), span[1]
    else:
        first, last = span[0], min(span[1], ends[0])
    return (first, last) if first <= last else None


def way(a, b):
    return [y - x for x, y in zip(a, b)]


def inner(u, v):
    return sum(x * y for x, y in zip(u, v))


def outer(u, v):
    return [u[1] * v[2] - u[2] * v[1], u[2] * v[0] - u[0] * v[2], u[0] * v[1] - u[1] * v[0]]


def exact_points(points):
    return [[Fraction(x) for x in p] for p in points]


# What of the way from a to b belongs to the other stretch, by its share t of
# the way: on the other's line, and between its ends.
def common_span(a, b, c, d):
    u, v, w = way(a, b), way(c, d), way(c, a)
    limits = [(v[0] * w[1] - v[1] * w[0], v[0] * u[1] - v[1] * u[0], 0, 0), (inner(v, w), inner(v, u), 0, inner(v, v))]
    if v == [0, 0]:
        limits = [(w[0], u[0], 0, 0), (w[1], u[1], 0, 0)]
    span = (Fraction(0), Fraction(0 if a == b else 1))
    for limit in limits:
        span = clipped(span, *limit)
    return span


def true_cross(a, b, c, d):
    a, b, c, d = exact_points((a, b, c, d))
    span = common_span(a, b, c, d)
    if span is None:
        return 0
    if span[0] != span[1]:
        return 3
    meeting = [x + span[0] * (y - x) for x, y in zip(a, b)]
    return 2 if meeting in (a, b, c, d) else 1


# The stretch's shares t that are in the plane and on the inner side of each of
# the triangle's three sides.
def true_pierce(a, b, c, d, e):
    a, b, c, d, e = exact_points((a, b, c, d, e))
    normal = outer(way(c, d), way(c, e))
    if normal == [0, 0, 0]:
        return -5
    span = (Fraction(0), Fraction(0 if a == b else 1))
    span = clipped(span, inner(normal, way(c, a)), inner(normal, way(a, b)), 0, 0)
    inward = [(p, outer(normal, way(p, q))) for p, q in ((c, d), (d, e), (e, c))]
    for corner, across in inward:
        span = clipped(span, inner(across, way(corner, a)), inner(across, way(a, b)), 0)
    if span is None:
        return 0
    if span[0] != span[1]:
        return 3
    meeting = [x + span[0] * (y - x) for x, y in zip(a, b)]
    on_rim = any(inner(across, way(corner, meeting)) == 0 for corner, across in inward)
    return 2 if on_rim or meeting in (a, b) else 1


# By the ray upwards from p, with the very height at which each stretch meets it.
def true_turns(loop, p):
    loop, (p,) = exact_points(loop), exact_points([p])
    count = 0
    for q, r in zip(loop, loop[1:] + loop[:1]):
        if common_span(q, r, p, p) is not None:
            return [0, 1, 0]
        if (q[0] <= p[0]) != (r[0] <= p[0]):
            height = q[1] + (p[0] - q[0]) * (r[1] - q[1]) / (r[0] - q[0])
            if height > p[1]:
                count += 1 if q[0] > r[0] else -1
    return [0, 0, count]


def true_simple(loop):
    count = len(loop)
    pairs = list(zip(loop, loop[1:] + loop[:1]))
    if any(exact_points([p]) == exact_points([q]) for p, q in pairs):
        return 0
    for i in range(count):
        for j in range(i):
            neighbours = (i - j) % count in (1, count - 1)
            if true_cross(*pairs[i], *pairs[j]) != (2 if neighbours else 0):
                return 0
    return 1


# The stretches between two points that have all others to their left, or
# between them: one starts at each corner.
def true_hull(points):
    points = exact_points(points)
    firsts = [i for i, p in enumerate(points) if points.index(p) == i]
    if len(firsts) == 1:
        return [1] + firsts
    following = {}
    for i in firsts:
        for j in firsts:
            if i != j and all(is_left_or_between(points[i], points[j], points[m]) for m in firsts):
                following[i] = j
    start = min(firsts, key=lambda i: (points[i][1], points[i][0]))
    places = [start]
    while following[places[-1]] != start:
        places.append(following[places[-1]])
    return [len(places)] + places


def is_left_or_between(a, b, p):
    u, v = way(a, b), way(a, p)
    turn = u[0] * v[1] - u[1] * v[0]
    return turn > 0 or (turn == 0 and 0 <= inner(u, v) <= inner(u, u))


# The rows' one solution by elimination, each row's last entry its right side;
# None where there is none or more than one.
def solved(rows):
    rows = [[Fraction(x) for x in row] for row in rows]
    for i in range(len(rows)):
        pivots = [r for r in range(i, len(rows)) if rows[r][i] != 0]
        if not pivots:
            return None
        rows[i], rows[pivots[0]] = rows[pivots[0]], rows[i]
        rows[i] = [x / rows[i][i] for x in rows[i]]
        for r in range(len(rows)):
            if r != i:
                rows[r] = [x - rows[r][i] * y for x, y in zip(rows[r], rows[i])]
    return [row[-1] for row in rows]


def answer_or_not_there(values):
    return [-5] if values is None else answer_of(values)


# By the shares s and t of both ways: a + s (b - a) = c + t (d - c).
def meeting_of(a, b, c, d):
    u, v, w = way(a, b), way(c, d), way(a, c)
    shares = solved([[u[i], -v[i], w[i]] for i in (0, 1)])
    return shares and [c[i] + shares[1] * v[i] for i in (0, 1)]


def foot_of(p, a, b):
    u = way(a, b)
    if not any(u):
        return None
    back = Fraction(inner(way(p, b), u)) / inner(u, u)
    return [y - back * z for y, z in zip(b, u)]


# As far from the first as from each other one.
def centre_of(first, others):
    return solved([[2 * (y - x) for x, y in zip(first, p)] + [inner(p, p) - inner(first, first)] for p in others])


# By all three shares: a + r (b - a) + s (c - a) = d + t (e - d).
def cutting_of(a, b, c, d, e):
    u, v, w, far = way(a, b), way(a, c), way(d, e), way(a, d)
    shares = solved([[u[i], v[i], -w[i], far[i]] for i in range(3)])
    return shares and [a[i] + shares[0] * u[i] + shares[1] * v[i] for i in range(3)]


def whole_by(way, value):
    if way == 0:
        return round(value)
    if way == 3:
        return math.trunc(value)
    return math.floor(value) if way == 1 else math.ceil(value)


def intervals_of(ends):
    values = values_of(ends)
    return list(zip(values[::2], values[1::2]))


# The answer of a call that tells the narrowest interval of each of these sets,
# each given by some of its members, the least and the greatest among them.
def intervals_answer(sets):
    ends = []
    for members in sets:
        ends += [rounded_down(min(members)), rounded_up(max(members))]
    return [-7] if None in ends else [0] + ends


def products(one, other):
    return [x * y for x in one for y in other]


# The least and the greatest sum, with each product's factors by themselves.
def weighed_ends(ones, others):
    all_products = [products(one, other) for one, other in zip(ones, others)]
    return [sum((min(p) for p in all_products), Fraction(0)), sum((max(p) for p in all_products), Fraction(0))]
