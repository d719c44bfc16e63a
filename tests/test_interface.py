import builtins
import contextlib
import copy
import io
import sys
import unittest
from unittest import mock

import tworooms.cache
from tests.cases import mixed, mixed_with_begins
from tests.helpers import LARGEST, ask, begin, drop, flat, get, place, put, puts, split, used
from tworooms.cache import answers


class Unchangeable(list):
    """A list that can't be changed, not for a while either."""

    def refuse(self, *arguments, **named):
        raise AssertionError("the list that was handed in is changed")

    append = clear = extend = insert = pop = remove = reverse = sort = refuse
    __setitem__ = __delitem__ = __iadd__ = __imul__ = refuse


class Form(unittest.TestCase):
    def test_numbers_stand_as_the_document_tells(self):
        calls = [0, 2, 2, 1, 10, 2, 2, 20, 1, 1, 2, 3, 30, 4, 2, 4, 1, 3, 3, 3, 2, 3, 9, 0, 0, 2, 1, 11]
        self.assertEqual(answers(calls), [
            1, 0,
            1, 0,
            1, 0,
            2, 1, 10,
            3, 0, 2, 20,
            1, 3,
            1, 2,
            3, 2, 3, 30,
            1, 1,
            1, 0,
            1, -1,
            3, 1, 1, 10,
        ])

    def test_one_call_alone(self):
        self.assertEqual(answers([0, 1]), [1, 0])
        self.assertEqual(answers([0, 0]), [1, -1])
        self.assertEqual(answers([1, 7]), [1, 0])
        self.assertEqual(answers([2, 7, 8]), [1, 0])
        self.assertEqual(answers([3, 7]), [1, 0])
        self.assertEqual(answers([4, 7]), [1, 0])

    def test_numbers_of_calls_as_keys_and_values(self):
        calls = [put(key, value) for key in range(9) for value in range(9)]
        self.assertEqual(ask(calls), [
            [1, key, value - 1] if value else [0] for key in range(9) for value in range(9)
        ])

    def test_all_are_whole_numbers_in_a_list(self):
        told = answers(flat(mixed_with_begins(3, 400) + [put(0, 0), put(LARGEST, LARGEST)]))
        self.assertIs(type(told), list)
        self.assertEqual({type(number) for number in told}, {int})

    def test_400_calls(self):
        calls = [begin(64)] + [put(LARGEST - at, at) for at in range(399)]
        told = ask(calls)
        self.assertEqual(told[:65], [[0]] * 65)
        self.assertEqual(told[65:], [[0, LARGEST - at, at] for at in range(399 - 64)])

    def test_400_calls_on_one_key(self):
        told = ask([put(5, at) for at in range(400)])
        self.assertEqual(told, [[0]] + [[1, 5, at] for at in range(399)])

    def test_400_refusals(self):
        self.assertEqual(answers([0, 0] * 400), [1, -1] * 400)


class HandedIn(unittest.TestCase):
    def test_equal_to_a_copy_made_before(self):
        for calls in (flat(mixed(5, 4, 12, 400)), flat(mixed_with_begins(6, 400)), [0, 0], [2, 1, 1]):
            before = copy.deepcopy(calls)
            answers(calls)
            self.assertEqual(calls, before)

    def test_not_changed_for_a_while_either(self):
        calls = flat(mixed_with_begins(7, 400))
        self.assertEqual(answers(Unchangeable(calls)), answers(calls))

    def test_not_given_back(self):
        calls = [1, 1]
        self.assertIsNot(answers(calls), calls)


class NothingIsKept(unittest.TestCase):
    def test_the_same_twice_with_another_list_between(self):
        calls = flat([begin(3)] + used(1, 2, 3) + puts(4, 5, 1, 6))
        other = flat([begin(2)] + used(7, 8) + puts(1, 2, 3))
        first = answers(calls)
        between = answers(other)
        self.assertEqual(answers(calls), first)
        self.assertEqual(answers(other), between)

    def test_each_list_has_a_new_object(self):
        answers(flat([begin(1), put(1), get(1)]))
        self.assertEqual(ask([get(1), place(1), drop(1)] + puts(*range(17))), [[0]] * 19 + [[0, 0, 0]])

    def test_an_answer_that_the_caller_changes(self):
        calls = flat(mixed(9, 3, 8, 100))
        first = answers(calls)
        before = list(first)
        first.clear()
        self.assertEqual(answers(calls), before)


class Quiet(unittest.TestCase):
    def test_it_prints_reads_and_imports_nothing(self):
        calls = flat(mixed_with_begins(11, 400) + [begin(0)])
        expected = answers(calls)
        out, err = io.StringIO(), io.StringIO()
        refuse = mock.Mock(side_effect=AssertionError("read or imported"))
        with contextlib.redirect_stdout(out), contextlib.redirect_stderr(err):
            with mock.patch.object(sys, "stdin", None), mock.patch.object(builtins, "open", refuse), \
                    mock.patch.object(builtins, "input", refuse), mock.patch.object(builtins, "__import__", refuse):
                told = answers(calls)
        self.assertEqual(told, expected)
        self.assertEqual((out.getvalue(), err.getvalue()), ("", ""))

    def test_the_function_is_where_the_document_says(self):
        self.assertIs(tworooms.cache.answers, answers)
        self.assertEqual(tworooms.cache.answers(calls=[1, 1]), [1, 0])


class Helpers(unittest.TestCase):
    """The helper that takes answers apart must find a wrong count."""

    def test_split(self):
        self.assertEqual(split([1, 0, 3, 0, 2, 20]), [[0], [0, 2, 20]])
        for told in ([2, 0], [0], [1, 0, 0]):
            with self.assertRaises(AssertionError):
                split(told)
