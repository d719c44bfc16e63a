import unittest

from tests.cases import all_nine, mixed
from tests.helpers import (
    FREQUENT, RECENT, ROWS, ask, begin, drop, flush, get, last, nth, place, put, puts, resize, row_keys, shown, sizes,
    target, target_after, used,
)

# Most 4, the target 1: 9, 8 recent, 5, 4 frequent, 7, 6 left the recent ones, 3, 2 left the frequent ones.
TWO_IN_EACH = [begin(4)] + used(1, 2, 3, 4) + puts(5, 6, 7, 8, 5, 9)

# Most 16, the target 4; 19 to 15 have left the recent ones and 2, 1 the frequent ones.
FIVE_AND_TWO = (used(*range(1, 11)) + puts(*range(11, 21)) + puts(11, 12, 13, 14) + puts(21, 22, 23, 24) + [drop(3)])


class Sizes(unittest.TestCase):
    def test_of_a_new_object(self):
        self.assertEqual(ask([sizes()]), [[16, 0, 0, 0, 0, 0]])

    def test_something_in_each_row_and_a_target_above_0(self):
        self.assertEqual(last(TWO_IN_EACH + [sizes()]), [4, 2, 2, 2, 2, 1])

    def test_each_row_by_itself(self):
        self.assertEqual(last(puts(1, 2, 3) + [sizes()]), [16, 3, 0, 0, 0, 0])
        self.assertEqual(last(used(1, 2, 3) + [sizes()]), [16, 0, 3, 0, 0, 0])
        self.assertEqual(last([begin(2)] + used(1) + puts(2, 3) + [drop(1), drop(3), sizes()]), [2, 0, 0, 1, 0, 0])
        self.assertEqual(last([begin(2)] + used(1, 2, 3) + [drop(2), drop(3), sizes()]), [2, 0, 0, 0, 1, 0])

    def test_four_different_lengths(self):
        self.assertEqual(row_keys(FIVE_AND_TWO), [
            [24, 23, 22, 21, 20], [14, 13, 12, 11, 10, 9, 8, 7, 6, 5, 4], [19, 18, 17, 16, 15], [2, 1],
        ])
        self.assertEqual(last(FIVE_AND_TWO + [drop(24), sizes()]), [16, 4, 11, 5, 2, 4])

    def test_behind_each_call(self):
        calls = [begin(2), put(1), get(1), put(2), put(3), put(2), drop(3), drop(1), resize(5), flush(), begin(65)]
        asked = [one for call in calls for one in (call, sizes())]
        self.assertEqual(ask(asked)[1::2], [
            [2, 0, 0, 0, 0, 0],
            [2, 1, 0, 0, 0, 0],
            [2, 0, 1, 0, 0, 0],
            [2, 1, 1, 0, 0, 0],
            # 2 goes; it comes back, the target grows to 1, and 1 goes.
            [2, 1, 1, 1, 0, 0],
            [2, 1, 1, 0, 1, 1],
            [2, 0, 1, 0, 1, 1],
            [2, 0, 1, 0, 0, 1],
            [5, 0, 1, 0, 0, 1],
            [5, 0, 0, 0, 0, 0],
            [5, 0, 0, 0, 0, 0],
        ])

    def test_full(self):
        calls = [begin(64)] + used(*range(128)) + puts(200, 201)
        self.assertEqual(last(calls + [sizes()]), [64, 1, 63, 1, 63, 0])


class TargetGrows(unittest.TestCase):
    def check(self, calls, before, key, after):
        self.assertEqual((target(calls), target(calls + [put(key)])), (before, after))

    def test_by_1(self):
        # No key has left the frequent ones, 3 has left the recent ones.
        self.check([begin(4)] + used(1, 2) + puts(3, 4, 5), 0, 3, 1)

    def test_by_1_where_the_quotient_is_0(self):
        # One has left the frequent ones, three the recent ones.
        self.check([begin(4)] + used(1, 2, 3, 4) + puts(5, 6, 7, 8), 0, 5, 1)

    def test_by_the_quotient(self):
        # 4, 3, 2 have left the frequent ones, 8 the recent ones.
        self.check([begin(4)] + used(1, 2, 3, 4, 5, 6, 7) + puts(8, 9), 0, 8, 3)

    def test_by_the_quotient_rounded_down(self):
        # Five have left the frequent ones, two the recent ones.
        self.check([begin(8)] + used(*range(1, 13)) + puts(14, 15, 16), 0, 14, 2)

    def test_stopped_at_most(self):
        # It is 2; 3, 2, 1 have left the frequent ones and 7 the recent ones: 5 would be past most.
        self.check([begin(4)] + used(1, 2, 3, 4) + puts(5, 6, 7, 8, 5, 6), 2, 7, 4)

    def test_just_at_most(self):
        # It is 1 with most 4: 3, 2, 1 have left the frequent ones and 6 the recent ones.
        calls = [begin(4)] + used(1, 2, 3, 4) + puts(5, 6, 7, 5, 8)
        self.assertEqual(row_keys(calls), [[8, 7], [5, 4], [6], [3, 2, 1]])
        self.check(calls, 1, 6, 4)

    def test_no_further_at_most(self):
        # The resize brings most down to the target, 4; 19 and 18 have left the recent ones.
        calls = FIVE_AND_TWO + [drop(24), drop(23), drop(22), resize(4)]
        self.assertEqual(last(calls + [sizes()]), [4, 2, 2, 2, 2, 4])
        self.check(calls, 4, 19, 4)
        self.check(calls + [put(19)], 4, 18, 4)


class TargetFalls(unittest.TestCase):
    def check(self, calls, before, key, after):
        self.assertEqual((target(calls), target(calls + [put(key)])), (before, after))

    def test_by_1(self):
        # No key has left the recent ones.
        calls = [begin(4)] + used(1, 2, 3, 4, 5, 6, 7) + puts(8, 9, 8)
        self.check(calls, 3, 5, 2)
        self.check(calls + [put(5)], 2, 4, 1)

    def test_by_1_from_most(self):
        self.check([begin(4)] + used(1, 2, 3, 4) + puts(5, 6, 7, 8, 5, 6, 7), 4, 1, 3)

    def test_by_the_quotient(self):
        # Dropped till 4 keys have left the recent ones and 1 the frequent ones, or 3.
        calls = FIVE_AND_TWO + [drop(2), drop(15)]
        self.check(calls, 4, 1, 0)
        self.check(calls + [drop(16)], 4, 1, 1)

    def test_by_the_quotient_rounded_down(self):
        # Five have left the recent ones, two the frequent ones.
        self.check(FIVE_AND_TWO, 4, 1, 2)

    def test_stopped_at_0(self):
        # Five have left the recent ones, one the frequent ones: it would fall by 5.
        self.check(FIVE_AND_TWO + [drop(2)], 4, 1, 0)

    def test_no_further_at_0(self):
        self.check([begin(4)] + used(1, 2, 3, 4) + puts(5), 0, 1, 0)


class Exact(unittest.TestCase):
    """Promise 7: what sizes tells is what the other calls show."""

    def test_the_target_is_the_one_that_acts(self):
        for most in (1, 2, 3, 5, 9):
            for seed in range(20):
                calls = mixed(seed * 19 + most, most, 2 * most + 2, 120)
                calls = calls + [put(key, 5) for key in range(500, 500 + most)]
                with self.subTest(most=most, seed=seed):
                    self.assertEqual(min(target(calls), most - 1), target_after(calls, most))

    def test_the_lengths_are_those_of_the_places(self):
        for limit in (1, 2, 4, 9, 20):
            for seed in range(20):
                calls = all_nine(seed * 23 + limit, limit, 300)
                told = ask(calls + [sizes()] + [place(key) for key in range(2 * limit + 3)])[len(calls):]
                where = [answer[0] for answer in told[1:]]
                self.assertEqual(told[0][1:5], [where.count(row) for row in ROWS])

    def test_most_is_the_one_that_acts(self):
        for limit in (1, 2, 4, 9, 20):
            for seed in range(20):
                calls = all_nine(seed * 29 + limit, limit, 200)
                most = last(calls + [sizes()])[0]
                calls = calls + [put(key, 5) for key in range(500, 500 + 2 * limit + 16)]
                told = last(calls + [sizes()])
                self.assertEqual((told[0], told[RECENT] + told[FREQUENT]), (most, most))


class AskingChangesNothing(unittest.TestCase):
    def test_once_and_twice(self):
        for calls in (TWO_IN_EACH, FIVE_AND_TWO, [], TWO_IN_EACH + [resize(2)], TWO_IN_EACH + [flush()]):
            self.assertEqual(shown(calls + [sizes()]), shown(calls))
            self.assertEqual(ask(calls + [sizes(), sizes()])[-2], last(calls + [sizes()]))
            self.assertEqual(ask(calls + [sizes(), sizes()])[-1], last(calls + [sizes()]))

    def test_between_the_calls_of_a_list(self):
        for seed in range(20):
            calls = all_nine(seed, 6, 200)
            asked = [one for call in calls for one in (call, sizes())]
            self.assertEqual(ask(asked)[::2], ask(calls))

    def test_other_questions_do_not_change_it(self):
        questions = [place(9), place(1), nth(1, 0), nth(5, 0), nth(4, 9), get(7), get(1), drop(1), resize(0), begin(0)]
        self.assertEqual(last(TWO_IN_EACH + questions + [sizes()]), [4, 2, 2, 2, 2, 1])
        self.assertEqual(last(TWO_IN_EACH + [get(9), sizes()]), [4, 1, 3, 2, 2, 1])
