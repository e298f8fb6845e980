"""What holds for all calls: inputs as they were, the same answer each time, in good time, and -8 ahead."""

import contextlib
import copy
import io
import sys
import time
import unittest

from exactplaces import exact
from examples import EXAMPLES, NO_DOUBLES
from helper import NOT_FINITE
from longest import LONGEST

GOOD_TIME = 15


def call(name, handed):
    return getattr(exact, name)(*handed)


def public_calls():
    return [name for name, value in vars(exact).items()
            if callable(value) and value.__module__ == exact.__name__]


# A long list is tried at some places only.
def tried_places(values):
    return sorted({0, 1, 2, len(values) // 2, len(values) - 2, len(values) - 1} & set(range(len(values))))


def with_value(handed, argument, place, value):
    changed = copy.deepcopy(handed)
    changed[argument][place] = value
    return changed


class AllCallsTest(unittest.TestCase):
    def test_every_call_has_examples(self):
        self.assertEqual(sorted({name for name, handed in EXAMPLES}), sorted(public_calls()))

    def test_examples_are_not_refused_as_wrong(self):
        for name, handed in EXAMPLES:
            with self.subTest(name=name, handed=handed):
                self.assertNotEqual(call(name, handed), [-8])

    def test_bits_that_are_no_finite_double(self):
        for name, handed in EXAMPLES:
            for argument, values in enumerate(handed):
                if isinstance(values, list) and (name, argument) not in NO_DOUBLES:
                    for place in tried_places(values):
                        for wrong in NOT_FINITE:
                            with self.subTest(name=name, argument=argument, place=place, wrong=wrong):
                                self.assertEqual(call(name, with_value(handed, argument, place, wrong)), [-8])


class UnchangedTest(unittest.TestCase):
    def check_twice(self, name, handed):
        before = copy.deepcopy(handed)
        lists = [id(values) for values in handed]
        first = call(name, handed)
        second = call(name, handed)
        self.assertEqual(handed, before)
        self.assertEqual([id(values) for values in handed], lists)
        self.assertEqual(first, second)
        self.assertIs(type(first), list)
        self.assertEqual({type(x) for x in first}, {int})
        self.assertFalse(any(first is values for values in handed))

    def test_inputs_stay_and_answers_repeat(self):
        for name, handed in EXAMPLES:
            with self.subTest(name=name, handed=handed):
                self.check_twice(name, handed)

    def test_wrong_inputs_stay_and_are_refused_again(self):
        for name, handed in EXAMPLES:
            for argument, values in enumerate(handed):
                if isinstance(values, list) and values and (name, argument) not in NO_DOUBLES:
                    with self.subTest(name=name, argument=argument):
                        self.check_twice(name, with_value(handed, argument, 0, NOT_FINITE[0]))

    def test_calls_between_change_nothing(self):
        before = [call(name, handed) for name, handed in EXAMPLES]
        after = [call(name, handed) for name, handed in reversed(EXAMPLES)]
        self.assertEqual(before, after[::-1])

    def test_changed_answers_change_no_later_ones(self):
        before = [call(name, handed) for name, handed in EXAMPLES]
        kept = copy.deepcopy(before)
        for answer in before:
            answer[0] += 1
            answer.append(7)
        self.assertEqual([call(name, handed) for name, handed in EXAMPLES], kept)

    def test_one_list_may_be_handed_in_twice(self):
        for name, handed in EXAMPLES:
            alike = list(handed)
            for argument, values in enumerate(handed):
                if isinstance(values, list) and values in handed[:argument]:
                    alike[argument] = handed[handed.index(values)]
            with self.subTest(name=name):
                self.assertEqual(call(name, alike), call(name, copy.deepcopy(handed)))

    def test_nothing_is_printed_or_read(self):
        out, err = io.StringIO(), io.StringIO()
        taken = sys.stdin
        sys.stdin = None
        try:
            with contextlib.redirect_stdout(out), contextlib.redirect_stderr(err):
                for name, handed in EXAMPLES:
                    call(name, handed)
        finally:
            sys.stdin = taken
        self.assertEqual((out.getvalue(), err.getvalue()), ("", ""))


class LongestTest(unittest.TestCase):
    def test_longest_inputs_end_in_good_time(self):
        for name, handed in LONGEST:
            with self.subTest(name=name):
                start = time.perf_counter()
                answer = call(name, handed)
                self.assertLess(time.perf_counter() - start, GOOD_TIME)
                self.assertNotEqual(answer, [-8])

    def test_longest_inputs_stay_as_they_were(self):
        for name, handed in LONGEST:
            with self.subTest(name=name):
                before = copy.deepcopy(handed)
                call(name, handed)
                self.assertEqual(handed, before)

    def test_the_long_loop_is_simple(self):
        self.assertEqual([call(name, handed) for name, handed in LONGEST if name == "simple"], [[1]])
