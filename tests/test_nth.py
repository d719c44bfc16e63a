import unittest

from tests.cases import all_nine
from tests.helpers import (
    FREQUENT, LARGEST, LEFT_FREQUENT, LEFT_RECENT, RECENT, ROWS, ask, begin, drop, flush, get, last, nth, place, put,
    puts, resize, row_keys, shown, sizes, used,
)

# Most 4, the target 1: 9, 8 recent, 5, 4 frequent, 7, 6 left the recent ones, 3, 2 left the frequent ones.
TWO_IN_EACH = [begin(4)] + used(1, 2, 3, 4) + puts(5, 6, 7, 8, 5, 9)


class Rows(unittest.TestCase):
    def check(self, row, first, last_one):
        told = ask(TWO_IN_EACH + [nth(row, 0), nth(row, 1), nth(row, 2)])[-3:]
        self.assertEqual(told, [[1, first], [1, last_one], [0]])

    def test_recent(self):
        self.check(1, 9, 8)

    def test_frequent(self):
        self.check(2, 5, 4)

    def test_left_the_recent_ones(self):
        self.check(3, 7, 6)

    def test_left_the_frequent_ones(self):
        self.check(4, 3, 2)

    def test_the_rows_are_numbered_as_place_numbers_them(self):
        self.assertEqual((RECENT, FREQUENT, LEFT_RECENT, LEFT_FREQUENT), (1, 2, 3, 4))
        for row, keys in zip(ROWS, row_keys(TWO_IN_EACH)):
            self.assertEqual(ask(TWO_IN_EACH + [place(key) for key in keys])[-2:], [[row], [row]])

    def test_one_alone_and_none(self):
        calls = [put(5)]
        self.assertEqual(ask(calls + [nth(1, 0), nth(1, 1), nth(2, 0), nth(3, 0), nth(4, 0)])[1:], [
            [1, 5], [0], [0], [0], [0],
        ])
        self.assertEqual(ask([nth(row, 0) for row in ROWS]), [[0]] * 4)

    def test_64_in_a_row(self):
        calls = [begin(64)] + puts(*range(64))
        told = ask(calls + [nth(1, i) for i in range(66)])[len(calls):]
        self.assertEqual(told, [[1, 63 - i] for i in range(64)] + [[0], [0]])

    def test_keys_at_the_edges(self):
        for key in (0, LARGEST):
            with self.subTest(key=key):
                self.assertEqual(ask([put(key, 3), nth(1, 0), nth(1, 1)])[1:], [[1, key], [0]])


class Orders(unittest.TestCase):
    """What was used last, or left last, stands first."""

    def test_recent_entries_as_they_were_put(self):
        self.assertEqual(row_keys(puts(3, 1, 2)), [[2, 1, 3], [], [], []])

    def test_frequent_entries_as_they_were_used(self):
        calls = puts(3, 1, 2) + [get(1), get(3), put(2, 7), get(1)]
        self.assertEqual(row_keys(calls), [[], [1, 2, 3], [], []])

    def test_keys_that_left_the_recent_ones_as_they_left(self):
        self.assertEqual(row_keys([begin(4)] + used(1, 2, 3) + puts(4, 5, 6, 7)), [[7], [3, 2, 1], [6, 5, 4], []])

    def test_keys_that_left_the_frequent_ones_as_they_left(self):
        self.assertEqual(row_keys([begin(3)] + used(1, 2, 3, 4, 5, 6)), [[], [6, 5, 4], [], [3, 2, 1]])

    def test_behind_a_drop_between(self):
        calls = [begin(4)] + used(1, 2, 3, 4, 5, 6, 7)
        self.assertEqual(row_keys(calls + [drop(6), drop(2)]), [[], [7, 5, 4], [], [3, 1]])

    def test_a_key_that_came_back_stands_in_one_row(self):
        # 7 had left the recent ones: the target grows to 2, and 4 goes. 2 had left the frequent ones: 0, and 8 goes.
        self.assertEqual(row_keys(TWO_IN_EACH + [put(7)]), [[9, 8], [7, 5], [6], [4, 3, 2]])
        self.assertEqual(row_keys(TWO_IN_EACH + [put(2)]), [[9], [2, 5, 4], [8, 7, 6], [3]])

    def test_behind_a_flush_and_a_begin(self):
        for call in (flush(), begin(4)):
            self.assertEqual(row_keys(TWO_IN_EACH + [call]), [[], [], [], []])


class NoSuchRow(unittest.TestCase):
    def test_refusal_is_alone(self):
        for row in (0, 5, 6, 64, LARGEST - 1, LARGEST):
            for i in (0, 1, 4, LARGEST):
                with self.subTest(row=row, i=i):
                    self.assertEqual(last(TWO_IN_EACH + [nth(row, i)]), [-1])
                    self.assertEqual(ask([nth(row, i)]), [[-1]])

    def test_refusal_changes_nothing(self):
        for row in (0, 5, LARGEST):
            self.assertEqual(shown(TWO_IN_EACH + [nth(row, 0)]), shown(TWO_IN_EACH))


class LargeIndex(unittest.TestCase):
    def test_far_behind_the_last(self):
        for row in ROWS:
            for i in (2, 3, 4, 8, 64, LARGEST - 1, LARGEST):
                with self.subTest(row=row, i=i):
                    self.assertEqual(last(TWO_IN_EACH + [nth(row, i)]), [0])


class AskingChangesNothing(unittest.TestCase):
    def test_each_question(self):
        for row in (0, 1, 2, 3, 4, 5):
            for i in (0, 1, 2, LARGEST):
                with self.subTest(row=row, i=i):
                    self.assertEqual(shown(TWO_IN_EACH + [nth(row, i), nth(row, i)]), shown(TWO_IN_EACH))

    def test_between_the_calls_of_a_list(self):
        calls = TWO_IN_EACH + puts(7, 10, 2) + [resize(3), get(9), drop(7)] + puts(11, 6, 3)
        calls = calls + [sizes(), flush(), put(1)]
        asked = []
        for call in calls:
            asked.extend([call] + [nth(row, i) for row in range(6) for i in (0, 1, LARGEST)])
        self.assertEqual(ask(asked)[::19], ask(calls))

    def test_on_many_cases(self):
        for seed in range(20):
            calls = all_nine(seed, 6, 60)
            asked = []
            for call in calls:
                asked.extend([call] + [nth(row, i) for row in ROWS for i in (0, 3)])
            self.assertEqual(ask(asked)[::9], ask(calls))
