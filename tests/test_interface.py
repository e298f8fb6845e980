"""The interface as the document writes it: the calls of exactplaces.exact, with their arguments."""

import inspect
import unittest

from exactplaces import exact

CALLS = """
side(a, b, c)
circle(a, b, c, d)
above(a, b, c, d)
sphere(a, b, c, d, e)
angle(k, a, b, c)
nearer(k, p, a, b)
longer(k, a, b, c, d)
cross(a, b, c, d)
pierce(a, b, c, d, e)
turns(loop, p)
simple(loop)
hull(points)
nearest(k, p, points)
sum_of(x)
dot(x, y)
norm(x)
ratio(x, y, u, v)
parts(x)
det(n, numbers)
area(loop)
heart(loop)
mass(points, triangles)
heart3(points, triangles)
apart(k, a, b)
off(p, a, b)
meet(a, b, c, d)
foot(k, p, a, b)
centre(a, b, c)
centre3(a, b, c, d)
cutting(a, b, c, d, e)
normal(a, b, c)
grid(k, way, x)
whole(kind, way, x)
number(way, x)
pick(op, x, y)
rounded(op, way, x, y)
both(op, X, Y)
alone(op, X)
weigh(X, Y)
rows(n, A, X)
powers(c, X)
middles(X)
order(X, Y)
newton(n, X, f, J, M)
"""


class InterfaceTest(unittest.TestCase):
    def test_no_call_more_or_less(self):
        names = [line.partition("(")[0] for line in CALLS.split("\n")[1:-1]]
        found = [name for name, value in vars(exact).items()
                 if callable(value) and value.__module__ == "exactplaces.exact"]
        self.assertEqual(found, names)
        self.assertEqual(len(names), 44)

    def test_names_and_arguments(self):
        for line in CALLS.split("\n")[1:-1]:
            name = line.partition("(")[0]
            with self.subTest(call=line):
                self.assertEqual(name + str(inspect.signature(getattr(exact, name))), line)
                self.assertEqual(getattr(exact, name).__module__, "exactplaces.exact")
