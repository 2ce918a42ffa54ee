"""The interface: how calls are handed in and how their answers are given back."""

import contextlib
import io
import sys
import unittest
from unittest import mock

from sixteenbit import core
from sixteenbit.core import UnknownCall, answers

# Of the calls 5 to 8: 001000 holds INC R0 and WAIT, 002000 INC R1 and 000002, and 4 a vector to it.
SEVERAL = [
    1,
    2, 512, 4, 0o200, 0o012, 1, 0,
    2, 1024, 4, 0o201, 0o012, 2, 0,
    2, 4, 4, 0, 4, 0o340, 0,
    4, 7, 512,
    4, 6, -2,
    4, 8, 0o105,
    7,
    6, 10,
    7,
    6, -1,
    7,
    8, 4, 2,
    8, 3, 7,
    8, 4, 7,
    5, 8,
    5, 6,
    5, 7,
    3, 65530, 4,
    6, 2,
    7,
    5, 0,
    5, 1,
    5, 7,
    5, 8,
    5, 9,
    4, 6, 1,
    8, 4, 7,
    6, 0,
    7,
    1,
    7,
    5, 6,
    2, 10, 3, 7, 8, 9,
    3, 10, 3,
    4, 6, 1000,
    4, 9, 1000,
    2, 65535, 2, 1, 1,
    3, -1, 5,
    2, 11, 0,
    3, 9, 4,
    1,
    3, 10, 1,
]
SEVERAL_ANSWERS = [
    1, 0,
    1, 0,
    1, 0,
    1, 0,
    1, 0,
    1, 0,
    1, 0,
    1, 0,
    1, 2,
    1, 2,
    1, -1,
    1, 2,
    1, 0,
    1, -1,
    1, 1,
    1, 0o340,
    1, 65530,
    1, 1024,
    5, 0, 4, 2, 0o101, 0,
    1, 2,
    1, 0,
    1, 1,
    1, 1,
    1, 516,
    1, 0o101,
    1, -1,
    1, 0,
    1, -2,
    1, 0,
    1, 0,
    1, 0,
    1, 0,
    1, 0,
    1, 0,
    4, 0, 7, 8, 9,
    1, 0,
    1, -1,
    1, -1,
    1, -1,
    1, 0,
    5, 0, 0, 7, 8, 9,
    1, 0,
    2, 0, 0,
]


class Unchangeable(list):
    """A list that does not let itself be changed, not for a while either."""

    def refuse(self, *given, **named):
        raise AssertionError("what was handed in is changed")

    append = clear = extend = insert = pop = remove = reverse = sort = refuse
    __setitem__ = __delitem__ = __iadd__ = __imul__ = refuse


class FormTest(unittest.TestCase):
    def test_several_calls(self):
        self.assertEqual(answers(SEVERAL), SEVERAL_ANSWERS)

    def test_it_stands_in_the_module_core(self):
        self.assertEqual(core.answers(calls=[1]), [1, 0])

    def test_whole_numbers_in_a_list(self):
        given_back = answers(SEVERAL)
        self.assertIs(type(given_back), list)
        self.assertEqual({type(number) for number in given_back}, {int})

    def test_data_that_looks_like_calls(self):
        self.assertEqual(answers([1, 2, 0, 4, 1, 2, 3, 4, 3, 0, 4]), [1, 0, 1, 0, 5, 0, 1, 2, 3, 4])

    def test_refused_data_is_passed_over(self):
        self.assertEqual(answers([1, 2, -1, 3, 1, 1, 1, 3, 0, 1]), [1, 0, 1, -1, 2, 0, 0])

    def test_a_number_of_no_call(self):
        for number in (0, -1, 9, 100):
            with self.assertRaises(UnknownCall):
                answers([1, number])


class SizeTest(unittest.TestCase):
    def test_400_calls(self):
        self.assertEqual(answers([1] * 400), [1, 0] * 400)
        self.assertEqual(answers([1] + [4, 9, 0] * 399), [1, 0] + [1, -1] * 399)

    def test_400_calls_of_every_kind(self):
        # INC R0 and a branch back to it; each of the rounds runs it once and is interrupted once.
        calls, expected = [1, 2, 512, 4, 0o200, 0o012, 0o376, 1, 2, 4, 2, 0, 2], [1, 0, 1, 0, 1, 0]
        for k in range(49):
            calls += [4, 7, 512, 6, 2, 7, 5, 0, 5, 7, 8, 4, 1, 5, 7, 3, 512, 2]
            expected += [1, 0, 1, 2, 1, 0, 1, k + 1, 1, 512, 1, 1, 1, 512, 3, 0, 0o200, 0o012]
        calls += [7, 5, 6, 7, 7, 7]
        expected += [1, 0, 1, 65536 - 4 * 49, 1, 0, 1, 0, 1, 0]
        self.assertEqual(answers(calls), expected)
        self.assertEqual(3 + 8 * 49 + 5, 400)

    def test_runs_are_gone_through_by_loops(self):
        # A thousand calls within one another are allowed: more subroutines and interrupts than that.
        words = [0o004737, 512]
        self.assertEqual(answers([1, 2, 512, 4] + [byte for w in words for byte in (w & 255, w >> 8)]
                                 + [4, 7, 512, 6, 20000, 5, 6]), [1, 0, 1, 0, 1, 0, 1, 20000, 1, 25536])

    def test_400_calls_with_the_longest_answers(self):
        one = [2001, 0, 5] + [0] * 1999
        calls = [1, 2, 100, 1, 5] + [3, 100, 2000] * 398
        self.assertEqual(answers(calls), [1, 0, 1, 0] + one * 398)

    def test_a_list_of_30000_numbers(self):
        data = [k % 256 for k in range(29993)]
        calls = [1, 2, 1000, len(data)] + data + [3, 30993 - 5, 6]
        self.assertEqual(len(calls), 30000)
        self.assertEqual(answers(calls), [1, 0, 1, 0, 7, 0] + data[-5:] + [0])

    def test_long_lists_of_many_calls(self):
        calls, expected = [1], [1, 0]
        for k in range(399):
            data = [k % 256] * 72
            calls += [2, 72 * k, 72] + data
            expected += [1, 0]
        self.assertEqual(len(calls), 29926)
        self.assertEqual(answers(calls), expected)


class NothingElseTest(unittest.TestCase):
    def test_what_is_handed_in_stays_the_same(self):
        calls = list(SEVERAL)
        answers(calls)
        self.assertEqual(calls, SEVERAL)

    def test_what_is_handed_in_is_not_changed_for_a_while_either(self):
        self.assertEqual(answers(Unchangeable(SEVERAL)), SEVERAL_ANSWERS)

    def test_a_second_time_is_as_the_first(self):
        first = answers(SEVERAL)
        first.append(5)
        self.assertEqual(answers(SEVERAL), SEVERAL_ANSWERS)

    def test_nothing_is_kept_between_times(self):
        answers([1, 2, 0, 2, 5, 6, 4, 0, 77])
        self.assertEqual(answers([1, 3, 0, 2]), [1, 0, 3, 0, 0, 0])

    def test_nothing_is_kept_behind_a_failure(self):
        with self.assertRaises(UnknownCall):
            answers([1, 2, 0, 1, 5, 99])
        self.assertEqual(answers([1, 3, 0, 1]), [1, 0, 2, 0, 0])

    def test_nothing_is_printed_read_or_imported(self):
        printed, modules = io.StringIO(), set(sys.modules)
        barred = mock.Mock(side_effect=AssertionError("something is read or imported"))
        with contextlib.redirect_stdout(printed), contextlib.redirect_stderr(printed), \
                mock.patch("sys.stdin", None), mock.patch("builtins.open", barred), \
                mock.patch("builtins.__import__", barred):
            given_back = answers(SEVERAL)
        self.assertEqual(given_back, SEVERAL_ANSWERS)
        self.assertEqual(printed.getvalue(), "")
        self.assertEqual(set(sys.modules), modules)


if __name__ == "__main__":
    unittest.main()
