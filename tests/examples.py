"""For every call: right inputs, among them some that are answered by each refusal but -8."""

from helper import GREATEST, joined, point
from truth import numbers_of

FLAT = [point(0, 0), point(5, 0), point(0, 5), point(1, 2)]
LINE = [point(0, 0), point(1, 1), point(2, 2), point(3, 3)]
SOLID = [point(0, 0, 0), point(4, 0, 0), point(0, 4, 0), point(0, 0, 4), point(1, 1, 2)]
PLANE = [point(0, 0, 1), point(1, 0, 1), point(0, 1, 1), point(1, 1, 1), point(2, 3, 1)]
SQUARE = joined([(0, 0), (4, 0), (4, 4), (0, 4)])
ROW = numbers_of([1, -2.5, 0.1, 1e300, -1e-300, -0.0])
OTHER_ROW = numbers_of([7, 3, -0.1, 1e-300, 1e300, 5])
GREAT_ROW = numbers_of([GREATEST, GREATEST, 1])

# Of each call its name and what is handed in.
EXAMPLES = [
    ("side", FLAT[:3]),
    ("side", LINE[:3]),
    ("circle", FLAT),
    ("circle", LINE),
    ("above", SOLID[:4]),
    ("above", PLANE[:4]),
    ("sphere", SOLID),
    ("sphere", PLANE),
    ("angle", [2] + FLAT[:3]),
    ("angle", [3] + SOLID[:3]),
    ("nearer", [2] + FLAT[:3]),
    ("nearer", [3] + SOLID[:3]),
    ("longer", [2] + FLAT),
    ("longer", [3] + SOLID[:4]),
    ("cross", FLAT),
    ("cross", LINE),
    ("pierce", [SOLID[4]] + SOLID[:4]),
    ("pierce", SOLID[:2] + PLANE[:3]),
    ("pierce", PLANE),
    ("pierce", SOLID[:2] + [point(x, x, x) for x in (1, 2, 3)]),
    ("turns", [SQUARE, point(1, 1)]),
    ("turns", [SQUARE, point(4, 1)]),
    ("simple", [SQUARE]),
    ("simple", [joined([(0, 0), (4, 4), (4, 0), (0, 4)])]),
    ("hull", [joined([(1, 1), (0, 0), (4, 0), (4, 4), (0, 4), (0, 0)])]),
    ("nearest", [2, FLAT[3], SQUARE]),
    ("nearest", [3, SOLID[4], SOLID[0] + SOLID[1] + SOLID[2]]),
    ("sum_of", [ROW]),
    ("sum_of", [GREAT_ROW]),
    ("dot", [ROW, OTHER_ROW]),
    ("dot", [GREAT_ROW, GREAT_ROW]),
    ("norm", [ROW]),
    ("norm", [GREAT_ROW]),
    ("ratio", [ROW, OTHER_ROW, GREAT_ROW, numbers_of([1, -1, 3])]),
    ("ratio", [ROW, OTHER_ROW, [], []]),
    ("ratio", [GREAT_ROW, GREAT_ROW, ROW, OTHER_ROW]),
    ("parts", [ROW]),
    ("parts", [GREAT_ROW]),
    ("det", [2, numbers_of([1, 2, 3, 4])]),
    ("det", [3, numbers_of([1e200, 2, 3, 4, 1e200, 6, 7, 8, 1e200])]),
    ("area", [SQUARE]),
    ("area", [joined([(0, 0), (1e200, 0), (0, 1e200)])]),
    ("heart", [SQUARE]),
    ("heart", [LINE[0] + LINE[1] + LINE[2]]),
    ("mass", [SOLID[0] + SOLID[1] + SOLID[2] + SOLID[3], [0, 2, 1, 0, 1, 3, 0, 3, 2, 1, 2, 3]]),
    ("mass", [joined([(1e200, 0, 0), (0, 1e200, 0), (0, 0, 1e200)]), [0, 1, 2]]),
    ("heart3", [SOLID[0] + SOLID[1] + SOLID[2] + SOLID[3], [0, 2, 1, 0, 1, 3, 0, 3, 2, 1, 2, 3]]),
    ("heart3", [SOLID[0] + SOLID[1] + SOLID[2] + SOLID[3], [0, 2, 1]]),
    ("apart", [2] + FLAT[:2]),
    ("apart", [3, SOLID[4], SOLID[1]]),
    ("apart", [2, point(GREATEST, 0), point(-GREATEST, 0)]),
    ("off", FLAT[1:]),
    ("off", [FLAT[0], FLAT[1], FLAT[1]]),
    ("off", [point(GREATEST, 0), point(-GREATEST, 0), point(-GREATEST, 1)]),
    ("meet", FLAT),
    ("meet", LINE),
    ("meet", [point(0, 0), point(1, 0), point(0, 1e300), point(1e300, 9e299)]),
    ("meet", [point(0, 0), point(1, 0), point(0, 1e300), point(1e20, 1e300 * (1 - 2.0 ** -50))]),
    ("foot", [2] + FLAT[1:]),
    ("foot", [3] + SOLID[2:]),
    ("foot", [2, FLAT[0], FLAT[1], FLAT[1]]),
    ("foot", [2, point(GREATEST, GREATEST), point(0, 0), point(2, 1)]),
    ("centre", FLAT[1:]),
    ("centre", LINE[:3]),
    ("centre", [point(-GREATEST, 0), point(GREATEST, 0), point(0, 1)]),
    ("centre3", SOLID[1:]),
    ("centre3", PLANE[:4]),
    ("centre3", [point(-GREATEST, 0, 0), point(GREATEST, 0, 0), point(0, 1, 0), point(0, 0, 1)]),
    ("cutting", SOLID[1:4] + [SOLID[0], SOLID[4]]),
    ("cutting", PLANE),
    ("cutting", PLANE[:3] + [point(0, 0, 1e300), point(1e300, 0, 1e300 * (1 - 2.0 ** -52))]),
    ("normal", SOLID[2:]),
    ("normal", [point(0, 0, 0), point(GREATEST, 0, 0), point(0, 2, 0)]),
    ("grid", [3, 1, ROW]),
    ("grid", [15, 0, ROW]),
]

# Lists of whole numbers that are no doubles: the name, and which argument.
NO_DOUBLES = (("mass", 1), ("heart3", 1))
