import builtins
import contextlib
import copy
import io
import sys
import unittest
from unittest import mock

import tworooms.cache
from tests.cases import all_nine, mixed, mixed_with_begins
from tests.helpers import (
    LARGEST, ask, begin, drop, flat, flush, get, nth, place, put, puts, resize, shown, sizes, split, used,
)
from tworooms.cache import answers


class Unchangeable(list):
    """A list that can't be changed, not for a while either."""

    def refuse(self, *arguments, **named):
        raise AssertionError("the list that was handed in is changed")

    append = clear = extend = insert = pop = remove = reverse = sort = refuse
    __setitem__ = __delitem__ = __iadd__ = __imul__ = refuse


class Form(unittest.TestCase):
    def test_numbers_stand_as_the_document_tells(self):
        calls = [0, 2, 2, 1, 10, 2, 2, 20, 1, 1, 2, 3, 30, 4, 2, 4, 1, 3, 3, 3, 2, 3, 9, 0, 0, 2, 1, 11]
        self.assertEqual(answers(calls), [
            1, 0,
            1, 0,
            1, 0,
            2, 1, 10,
            3, 0, 2, 20,
            1, 3,
            1, 2,
            3, 2, 3, 30,
            1, 1,
            1, 0,
            1, -1,
            3, 1, 1, 10,
        ])

    def test_numbers_of_nth_sizes_resize_and_flush(self):
        calls = [6, 7, 2, 2, 1, 10, 2, 2, 20, 1, 1, 5, 1, 0, 5, 2, 1, 5, 5, 0, 6]
        calls = calls + [7, 1, 6, 5, 3, 0, 7, 65, 7, 0, 8, 8, 6]
        self.assertEqual(answers(calls), [
            6, 16, 0, 0, 0, 0, 0,
            1, 0,
            1, 0,
            1, 0,
            2, 1, 10,
            2, 1, 2,
            1, 0,
            1, -1,
            6, 2, 1, 1, 0, 0, 0,
            3, 0, 2, 20,
            6, 1, 0, 1, 1, 0, 0,
            2, 1, 2,
            1, -1,
            1, -1,
            3, 1, 1, 10,
            1, 0,
            6, 1, 0, 0, 0, 0, 0,
        ])

    def test_what_left_has_no_count_ahead_but_of_flush(self):
        calls = [2, 1, 10, 2, 2, 20, 2, 3, 30]
        self.assertEqual(answers(calls + [7, 1]), [1, 0, 1, 0, 1, 0, 5, 0, 1, 10, 2, 20])
        self.assertEqual(answers(calls + [8]), [1, 0, 1, 0, 1, 0, 7, 3, 1, 10, 2, 20, 3, 30])

    def test_one_call_alone(self):
        self.assertEqual(answers([0, 1]), [1, 0])
        self.assertEqual(answers([0, 0]), [1, -1])
        self.assertEqual(answers([1, 7]), [1, 0])
        self.assertEqual(answers([2, 7, 8]), [1, 0])
        self.assertEqual(answers([3, 7]), [1, 0])
        self.assertEqual(answers([4, 7]), [1, 0])
        self.assertEqual(answers([5, 1, 0]), [1, 0])
        self.assertEqual(answers([5, 0, 0]), [1, -1])
        self.assertEqual(answers([6]), [6, 16, 0, 0, 0, 0, 0])
        self.assertEqual(answers([7, 1]), [1, 0])
        self.assertEqual(answers([7, 0]), [1, -1])
        self.assertEqual(answers([8]), [1, 0])

    def test_calls_without_arguments_one_behind_another(self):
        self.assertEqual(answers([6, 8, 6]), [6, 16, 0, 0, 0, 0, 0, 1, 0, 6, 16, 0, 0, 0, 0, 0])
        self.assertEqual(answers([8, 8, 7, 8, 6, 2, 6, 8, 8, 8]), [
            1, 0, 1, 0, 1, 0, 6, 8, 0, 0, 0, 0, 0, 1, 0, 3, 1, 6, 8, 1, 0,
        ])

    def test_numbers_of_calls_as_keys_and_values(self):
        calls = [put(key, value) for key in range(9) for value in range(9)]
        self.assertEqual(ask(calls), [
            [1, key, value - 1] if value else [0] for key in range(9) for value in range(9)
        ])

    def test_all_are_whole_numbers_in_a_list(self):
        for calls in (mixed_with_begins(3, 398) + [put(0, 0), put(LARGEST, LARGEST)], all_nine(3, 6, 400)):
            told = answers(flat(calls))
            self.assertIs(type(told), list)
            self.assertEqual({type(number) for number in told}, {int})

    def test_400_calls(self):
        calls = [begin(64)] + [put(LARGEST - at, at) for at in range(399)]
        told = ask(calls)
        self.assertEqual(told[:65], [[0]] * 65)
        self.assertEqual(told[65:], [[0, LARGEST - at, at] for at in range(399 - 64)])

    def test_400_puts(self):
        told = ask([put(LARGEST - at, at) for at in range(400)])
        self.assertEqual(told, [[0]] * 16 + [[0, LARGEST - at, at] for at in range(384)])

    def test_400_calls_of_all_nine_numbers(self):
        one_round = [begin(2), put(1), put(2), get(1), nth(2, 0), put(3), place(2), drop(3), resize(1), sizes()]
        one_round = one_round + [put(4), place(1), flush()]
        calls = (one_round * 31)[:400]
        self.assertEqual({call[0] for call in calls}, set(range(9)))
        self.assertEqual(len(calls), 400)
        # 3 makes 2 leave; 1 and the key 2 are known at the resize, which keeps both; 4 makes 1 leave.
        told = [[0], [0], [0], [1, 10], [1, 1], [0, 2, 20], [3], [2, 3, 30], [0], [1, 0, 1, 1, 0, 0]]
        told = told + [[0, 1, 10], [4], [1, 4, 40]]
        self.assertEqual(ask(calls), (told * 31)[:400])

    def test_400_calls_on_one_key(self):
        told = ask([put(5, at) for at in range(400)])
        self.assertEqual(told, [[0]] + [[1, 5, at] for at in range(399)])

    def test_400_refusals(self):
        self.assertEqual(answers([0, 0] * 400), [1, -1] * 400)
        self.assertEqual(answers([7, 65] * 400), [1, -1] * 400)
        self.assertEqual(answers([5, 5, 0] * 400), [1, -1] * 400)

    def test_400_calls_that_are_one_number_each(self):
        self.assertEqual(answers([6] * 400), [6, 16, 0, 0, 0, 0, 0] * 400)
        self.assertEqual(answers([8] * 400), [1, 0] * 400)


class Refusals(unittest.TestCase):
    """A refusal is -1 alone, and nothing has changed, of each call that can refuse."""

    def test_each(self):
        calls = [begin(4)] + used(1, 2, 3, 4) + puts(5, 6, 7, 8, 5, 9)
        refused = [begin(0), begin(65), begin(LARGEST), resize(0), resize(65), resize(LARGEST),
                   nth(0, 0), nth(5, 0), nth(LARGEST, LARGEST)]
        self.assertEqual(ask(calls + refused)[len(calls):], [[-1]] * 9)
        self.assertEqual(shown(calls + refused), shown(calls))


class HandedIn(unittest.TestCase):
    def test_equal_to_a_copy_made_before(self):
        for calls in (flat(mixed(5, 4, 12, 400)), flat(mixed_with_begins(6, 400)), flat(all_nine(6, 9, 400)),
                      [0, 0], [2, 1, 1], [6], [7, 1], [8]):
            before = copy.deepcopy(calls)
            answers(calls)
            self.assertEqual(calls, before)

    def test_not_changed_for_a_while_either(self):
        for calls in (flat(mixed_with_begins(7, 400)), flat(all_nine(7, 9, 400))):
            self.assertEqual(answers(Unchangeable(calls)), answers(calls))

    def test_not_given_back(self):
        calls = [1, 1]
        self.assertIsNot(answers(calls), calls)


class NothingIsKept(unittest.TestCase):
    def test_the_same_twice_with_another_list_between(self):
        calls = flat([begin(3)] + used(1, 2, 3) + puts(4, 5, 1, 6))
        other = flat([begin(2)] + used(7, 8) + puts(1, 2, 3))
        first = answers(calls)
        between = answers(other)
        self.assertEqual(answers(calls), first)
        self.assertEqual(answers(other), between)

    def test_the_same_twice_with_all_nine_numbers(self):
        for seed in range(10):
            calls, other = flat(all_nine(seed, 7, 400)), flat(all_nine(seed + 50, 20, 400))
            first = answers(calls)
            between = answers(other)
            self.assertEqual(answers(calls), first)
            self.assertEqual(answers(other), between)

    def test_most_and_target_are_not_kept(self):
        answers(flat([begin(4)] + used(1, 2, 3, 4) + puts(5, 6, 5) + [resize(3)]))
        self.assertEqual(answers([6]), [6, 16, 0, 0, 0, 0, 0])

    def test_each_list_has_a_new_object(self):
        answers(flat([begin(1), put(1), get(1)]))
        self.assertEqual(ask([get(1), place(1), drop(1)] + puts(*range(17))), [[0]] * 19 + [[0, 0, 0]])

    def test_an_answer_that_the_caller_changes(self):
        calls = flat(mixed(9, 3, 8, 100))
        first = answers(calls)
        before = list(first)
        first.clear()
        self.assertEqual(answers(calls), before)


class Quiet(unittest.TestCase):
    def test_it_prints_reads_and_imports_nothing(self):
        calls = flat(all_nine(11, 9, 398) + [begin(0), resize(0)])
        expected = answers(calls)
        out, err = io.StringIO(), io.StringIO()
        refuse = mock.Mock(side_effect=AssertionError("read or imported"))
        with contextlib.redirect_stdout(out), contextlib.redirect_stderr(err):
            with mock.patch.object(sys, "stdin", None), mock.patch.object(builtins, "open", refuse), \
                    mock.patch.object(builtins, "input", refuse), mock.patch.object(builtins, "__import__", refuse):
                told = answers(calls)
        self.assertEqual(told, expected)
        self.assertEqual((out.getvalue(), err.getvalue()), ("", ""))

    def test_the_function_is_where_the_document_says(self):
        self.assertIs(tworooms.cache.answers, answers)
        self.assertEqual(tworooms.cache.answers(calls=[1, 1]), [1, 0])


class Helpers(unittest.TestCase):
    """The helper that takes answers apart must find a wrong count."""

    def test_split(self):
        self.assertEqual(split([1, 0, 3, 0, 2, 20]), [[0], [0, 2, 20]])
        for told in ([2, 0], [0], [1, 0, 0]):
            with self.assertRaises(AssertionError):
                split(told)
