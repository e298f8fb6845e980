"""What holds for every call: -8 ahead of all else, inputs unchanged, nothing kept."""

import copy
import unittest

from exactplaces import exact
from helper import NOT_FINITE, bits, point

FLAT = [point(0, 0), point(1, 0), point(0, 1), point(2, 2)]
ON_A_LINE = [point(0, 0), point(1, 1), point(2, 2), point(3, 3)]
SOLID = [point(0, 0, 0), point(1, 0, 0), point(0, 1, 0), point(0, 0, 1), point(2, 2, 2)]
ON_A_LINE_IN_SPACE = [point(x, x, x) for x in range(5)]
IN_A_PLANE = [point(0, 0, 1), point(1, 0, 1), point(0, 1, 1), point(1, 1, 1), point(2, 3, 1)]

# Name, how many points, of how many coordinates, their values; where there
# is a k, it is handed in ahead of them.
WITHOUT_K = (
    ("side", 2, FLAT[:3]),
    ("circle", 2, FLAT),
    ("circle", 2, ON_A_LINE),
    ("above", 3, SOLID[:4]),
    ("sphere", 3, SOLID),
    ("sphere", 3, IN_A_PLANE),
    ("cross", 2, FLAT),
    ("pierce", 3, SOLID),
    ("pierce", 3, ON_A_LINE_IN_SPACE),
    ("off", 2, FLAT[:3]),
    ("off", 2, [FLAT[0], FLAT[1], FLAT[1]]),
    ("meet", 2, FLAT),
    ("meet", 2, ON_A_LINE),
    ("centre", 2, FLAT[:3]),
    ("centre", 2, ON_A_LINE[:3]),
    ("centre3", 3, SOLID[:4]),
    ("centre3", 3, IN_A_PLANE[:4]),
    ("cutting", 3, SOLID),
    ("cutting", 3, IN_A_PLANE),
    ("normal", 3, SOLID[:3]),
)
WITH_K = (("angle", 3), ("nearer", 3), ("longer", 4), ("apart", 2), ("foot", 3))


def all_calls():
    calls = [(name, k, [], points) for name, k, points in WITHOUT_K]
    for name, count in WITH_K:
        calls.append((name, 2, [2], FLAT[:count]))
        calls.append((name, 3, [3], SOLID[:count]))
    return calls


def wrong_points(k):
    right = point(*range(1, k + 1))
    counts = [point(*range(1, n + 1)) for n in range(5) if n != k]
    values = []
    for place in range(k):
        for wrong in NOT_FINITE:
            values.append(right[:place] + [wrong] + right[place + 1:])
    return counts + values


class WrongInputTest(unittest.TestCase):
    def test_right_inputs_are_not_refused_so(self):
        for name, k, ahead, points in all_calls():
            with self.subTest(name=name, k=k):
                self.assertNotEqual(getattr(exact, name)(*ahead, *points), [-8])

    def test_wrong_point_at_each_place(self):
        for name, k, ahead, points in all_calls():
            for place in range(len(points)):
                for wrong in wrong_points(k):
                    with self.subTest(name=name, place=place, wrong=wrong):
                        handed = points[:place] + [wrong] + points[place + 1:]
                        self.assertEqual(getattr(exact, name)(*ahead, *handed), [-8])

    def test_all_points_wrong(self):
        for name, k, ahead, points in all_calls():
            for wrong in ([], point(1), point(1, 2, 3, 4)):
                with self.subTest(name=name, wrong=wrong):
                    self.assertEqual(getattr(exact, name)(*ahead, *[wrong] * len(points)), [-8])

    def test_wrong_k(self):
        for name, count in WITH_K:
            for k in (0, 1, 4, 5, bits(2.0), 2 ** 64 - 1):
                for of in (0, 1, 2, 3, 4):
                    with self.subTest(name=name, k=k, of=of):
                        points = [point(*range(of))] * count
                        self.assertEqual(getattr(exact, name)(k, *points), [-8])

    def test_k_and_points_that_disagree(self):
        for name, count in WITH_K:
            with self.subTest(name=name):
                self.assertEqual(getattr(exact, name)(3, *FLAT[:count]), [-8])
                self.assertEqual(getattr(exact, name)(2, *SOLID[:count]), [-8])

    def test_wrong_input_comes_before_what_is_not_there(self):
        self.assertEqual(exact.circle(*ON_A_LINE), [-5])
        self.assertEqual(exact.circle(*ON_A_LINE[:3], [bits(1.0), NOT_FINITE[0]]), [-8])
        self.assertEqual(exact.circle(*ON_A_LINE[:3], []), [-8])
        self.assertEqual(exact.sphere(*IN_A_PLANE), [-5])
        self.assertEqual(exact.sphere(*IN_A_PLANE[:4], point(1, 2)), [-8])
        self.assertEqual(exact.sphere(*IN_A_PLANE[:4], [NOT_FINITE[5]] * 3), [-8])

    def test_numbers_next_to_the_wrong_ones_are_right(self):
        greatest = 0x7FEFFFFFFFFFFFFF
        least = 0xFFEFFFFFFFFFFFFF
        self.assertEqual(exact.side([least, least], [greatest, greatest], [least, greatest]), [1])
        self.assertEqual(exact.side([0, 0], [1, 1], [0, 1]), [1])


class UnchangedTest(unittest.TestCase):
    def test_inputs_stay_and_answers_repeat(self):
        wrong = [("side", 2, [], [[], FLAT[0], FLAT[1]]), ("angle", 9, [9], FLAT[:3])]
        for name, k, ahead, points in all_calls() + wrong:
            with self.subTest(name=name, k=k):
                handed = copy.deepcopy(points)
                first = getattr(exact, name)(*ahead, *handed)
                self.assertEqual(handed, points)
                second = getattr(exact, name)(*ahead, *handed)
                self.assertEqual(handed, points)
                self.assertEqual(first, second)
                self.assertIs(type(first), list)
                self.assertEqual({type(x) for x in first}, {int})

    def test_an_answer_that_is_changed_changes_no_later_one(self):
        exact.side(*FLAT[:3]).append(7)
        self.assertEqual(exact.side(*FLAT[:3]), [1])
        exact.circle(*ON_A_LINE).append(7)
        self.assertEqual(exact.circle(*ON_A_LINE), [-5])
        exact.side([], [], []).append(7)
        self.assertEqual(exact.side([], [], []), [-8])

    def test_calls_between_change_nothing(self):
        before = [getattr(exact, name)(*ahead, *points) for name, k, ahead, points in all_calls()]
        after = [getattr(exact, name)(*ahead, *points) for name, k, ahead, points in reversed(all_calls())]
        self.assertEqual(before, after[::-1])

    def test_one_list_may_be_handed_in_as_every_point(self):
        one = point(3, 4)
        self.assertEqual(exact.side(one, one, one), [0])
        self.assertEqual(exact.circle(one, one, one, one), [-5])
        self.assertEqual(exact.cross(one, one, one, one), [2])
        self.assertEqual(one, point(3, 4))
