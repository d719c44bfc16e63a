import unittest

from tests.cases import all_nine
from tests.helpers import (
    LARGEST, RECENT, ask, begin, drop, flush, get, last, place, put, puts, resize, row_keys, shown, sizes, target, used,
)

# Most 4, the target 1: 9, 8 recent, 5, 4 frequent, 7, 6 left the recent ones, 3, 2 left the frequent ones.
TWO_IN_EACH = [begin(4)] + used(1, 2, 3, 4) + puts(5, 6, 7, 8, 5, 9)

# Most 4, the target 1: 6 recent, 5, 4, 3 frequent, 2, 1 left the frequent ones.
AS_MANY = [begin(4)] + used(1, 2, 3, 4) + puts(5, 6, 5)

# Most 4, the target 3: 9 recent, 8, 7, 6 frequent, 5, 4, 3, 2 left the frequent ones.
FEWER = [begin(4)] + used(1, 2, 3, 4, 5, 6, 7) + puts(8, 9, 8)

# Most 4, the target 4: 10, 9, 8 recent, 7 frequent, 6, 5, 4, 3 left the frequent ones.
TARGET_AT_MOST = [begin(4)] + used(1, 2, 3, 4) + puts(5, 6, 7, 8, 5, 6, 7, 9, 10)


class Case(unittest.TestCase):
    def check(self, calls, most, left, rows, target_after_it):
        """Checks what a resize behind the calls tells as what left, and all that can be asked behind it."""
        resized = calls + [resize(most)]
        self.assertEqual(last(resized), [0] + left)
        self.assertEqual(row_keys(resized), rows)
        lengths = [len(row) for row in rows]
        self.assertEqual(last(resized + [sizes()]), [most] + lengths + [target_after_it])
        held = rows[0] + rows[1]
        self.assertEqual(ask(resized + [get(key) for key in held])[len(resized):], [[1, key * 10] for key in held])


class TheCasesAbove(Case):
    def test_rows_and_targets(self):
        self.assertEqual(shown(TWO_IN_EACH)[:3], (4, [[9, 8], [5, 4], [7, 6], [3, 2]], 1))
        self.assertEqual(shown(AS_MANY)[:3], (4, [[6], [5, 4, 3], [], [2, 1]], 1))
        self.assertEqual(shown(FEWER)[:3], (4, [[9], [8, 7, 6], [], [5, 4, 3, 2]], 3))
        self.assertEqual(shown(TARGET_AT_MOST)[:3], (4, [[10, 9, 8], [7], [], [6, 5, 4, 3]], 4))


class Refused(unittest.TestCase):
    def test_refusal_is_alone(self):
        for most in (0, 65, 66, 128, LARGEST):
            with self.subTest(most=most):
                self.assertEqual(ask([resize(most)]), [[-1]])

    def test_refusal_changes_nothing(self):
        for most in (0, 65, LARGEST):
            for calls in ([], TWO_IN_EACH, AS_MANY, FEWER, TARGET_AT_MOST):
                with self.subTest(most=most):
                    refused = calls + [resize(most)]
                    self.assertEqual(last(refused), [-1])
                    self.assertEqual(shown(refused), shown(calls))
                    self.assertEqual(ask(refused + puts(20, 21, 3))[-3:], ask(calls + puts(20, 21, 3))[-3:])

    def test_most_is_16_behind_a_refusal_on_a_new_object(self):
        self.assertEqual(ask([resize(65), sizes()]), [[-1], [16, 0, 0, 0, 0, 0]])


class Edges(Case):
    def test_1_and_64_on_a_new_object(self):
        for most in (1, 64):
            with self.subTest(most=most):
                self.check([], most, [], [[], [], [], []], 0)
                calls = [resize(most)] + puts(*range(most))
                self.assertEqual(ask(calls), [[0]] * (most + 1))
                self.assertEqual(last(calls + [put(most)]), [0, 0, 0])

    def test_every_most_that_may_be(self):
        told = ask([one for most in range(1, 65) for one in (resize(most), sizes())])
        self.assertEqual(told, [one for most in range(1, 65) for one in ([0], [most, 0, 0, 0, 0, 0])])

    def test_from_64_to_1(self):
        calls = [begin(64)] + puts(*range(1, 65))
        left = [number for key in range(1, 64) for number in (key, key * 10)]
        self.check(calls, 1, left, [[64], [], [], []], 0)

    def test_from_64_to_1_and_back(self):
        calls = [begin(64)] + used(*range(1, 65)) + [resize(1)]
        left = [number for key in range(1, 64) for number in (key, key * 10)]
        self.assertEqual(last(calls), [0] + left)
        self.check(calls, 64, [], [[], [64], [], [63]], 0)

    def test_keys_and_values_at_the_edges(self):
        calls = [put(0, LARGEST), put(LARGEST, 0), put(1, 1), resize(1)]
        self.assertEqual(last(calls), [0, 0, LARGEST, LARGEST, 0])


class SameOrMore(Case):
    def test_to_the_same_number(self):
        for calls in (TWO_IN_EACH, AS_MANY, FEWER, TARGET_AT_MOST):
            self.assertEqual(last(calls + [resize(4)]), [0])
            self.assertEqual(shown(calls + [resize(4)]), shown(calls))

    def test_to_more_nothing_leaves_and_nothing_is_forgotten(self):
        for most in (5, 8, 63, 64):
            with self.subTest(most=most):
                self.check(TWO_IN_EACH, most, [], [[9, 8], [5, 4], [7, 6], [3, 2]], 1)
                self.check(TARGET_AT_MOST, most, [], [[10, 9, 8], [7], [], [6, 5, 4, 3]], 4)

    def test_behind_it_there_is_room(self):
        calls = TWO_IN_EACH + [resize(6)]
        self.assertEqual(ask(calls + puts(10, 11, 12))[-3:], [[0], [0], [0, 8, 80]])
        # Recent entries and keys that left them are together 6 with 11, so 6 is forgotten for 12.
        self.assertEqual(row_keys(calls + puts(10, 11)), [[11, 10, 9, 8], [5, 4], [7, 6], [3, 2]])
        self.assertEqual(row_keys(calls + puts(10, 11, 12)), [[12, 11, 10, 9], [5, 4], [8, 7], [3, 2]])

    def test_more_may_be_known(self):
        # Eight are known once 10 is put: with most 4 the key 2 is forgotten for 11, with most 5 it isn't.
        calls = FEWER + [drop(9)]
        self.assertEqual(row_keys(calls + puts(10, 11)), [[11, 10], [8, 7], [], [6, 5, 4, 3]])
        self.assertEqual(row_keys(calls + [resize(5)] + puts(10, 11)), [[11, 10], [8, 7, 6], [], [5, 4, 3, 2]])

    def test_the_target_may_grow_to_the_new_most(self):
        # For 15, the recent entry 8 goes; as it comes back, four have left the frequent ones and it the recent ones.
        calls = TARGET_AT_MOST + [resize(8)] + puts(11, 12, 13, 14, 15)
        self.assertEqual(ask(calls)[-5:], [[0], [0], [0], [0], [0, 8, 80]])
        self.assertEqual((target(calls), target(calls + [put(8)])), (4, 8))
        self.assertEqual(last(calls + [put(8)]), [0, 7, 70])


class WhichGoes(Case):
    def test_more_recent_entries_than_the_target(self):
        self.check(TWO_IN_EACH, 3, [8, 80], [[9], [5, 4], [8, 7], [3]], 1)

    def test_more_recent_entries_than_a_target_of_0(self):
        calls = [begin(4)] + used(1, 2) + puts(3, 4)
        self.check(calls, 3, [3, 30], [[4], [2, 1], [3], []], 0)

    def test_just_as_many_as_the_target(self):
        # Room is made for no key, so for none that had left the frequent ones.
        self.check(AS_MANY, 3, [3, 30], [[6], [5, 4], [], [3, 2, 1]], 1)

    def test_fewer_recent_entries_than_the_target(self):
        self.check(FEWER, 3, [6, 60], [[9], [8, 7], [], [6, 5, 4]], 3)

    def test_no_recent_entry(self):
        calls = [begin(4)] + used(1, 2, 3, 4)
        self.check(calls, 3, [1, 10], [[], [4, 3, 2], [], [1]], 0)
        self.check(calls, 2, [1, 10, 2, 20], [[], [4, 3], [], [2, 1]], 0)

    def test_no_recent_entry_and_a_target_above_0(self):
        self.check(AS_MANY + [get(6)], 2, [3, 30, 4, 40], [[], [6, 5], [], [4, 3]], 1)

    def test_no_frequent_entry(self):
        calls = [begin(4)] + puts(1, 2, 3, 4)
        self.check(calls, 3, [1, 10], [[4, 3, 2], [], [], []], 0)
        self.check(calls, 1, [1, 10, 2, 20, 3, 30], [[4], [], [], []], 0)

    def test_fewer_entries_are_held_than_the_new_most(self):
        self.check(puts(1) + used(2), 3, [], [[1], [2], [], []], 0)

    def test_just_as_many_entries_are_held_as_the_new_most(self):
        self.check(puts(1) + used(2), 2, [], [[1], [2], [], []], 0)


class SeveralGo(Case):
    def test_a_recent_one_and_then_a_frequent_one(self):
        self.check(TWO_IN_EACH, 2, [8, 80, 4, 40], [[9], [5], [8], [4]], 1)

    def test_a_recent_one_and_then_all_frequent_ones(self):
        self.check(TWO_IN_EACH, 1, [8, 80, 4, 40, 5, 50], [[9], [], [], [5]], 1)

    def test_the_recent_ones_down_to_a_target_of_0_and_then_frequent_ones(self):
        # 10 to 7 recent, 6 to 1 frequent.
        calls = [begin(10)] + used(*range(1, 7)) + puts(7, 8, 9, 10)
        self.check(calls, 7, [7, 70, 8, 80, 9, 90], [[10], [6, 5, 4, 3, 2, 1], [9, 8, 7], []], 0)
        self.check(calls, 4, [7, 70, 8, 80, 9, 90, 10, 100, 1, 10, 2, 20], [[], [6, 5, 4, 3], [10, 9, 8, 7], []], 0)

    def test_the_last_values_are_told(self):
        calls = [begin(3), put(1), put(1, 11), put(2), put(3, 33), put(2, 22)]
        self.assertEqual(last(calls + [resize(1)]), [0, 3, 33, 1, 11])

    def test_what_left_is_not_told_again(self):
        calls = TWO_IN_EACH + [resize(2)]
        self.assertEqual(ask(calls + [get(8), get(4), drop(8), drop(4), flush()])[-5:], [
            [0], [0], [1], [1], [2, 9, 90, 5, 50],
        ])


class Target(Case):
    def test_past_the_new_most_it_is_brought_down_to_it(self):
        self.check(FEWER, 2, [6, 60, 7, 70], [[9], [8], [], [7, 6]], 2)
        self.check(FEWER, 1, [6, 60, 7, 70, 8, 80], [[9], [], [], [8]], 1)

    def test_it_is_brought_down_ahead_of_what_goes(self):
        # With a target of 2 the recent entry 8 goes first; with 4, the frequent entry 7 would.
        self.check(TARGET_AT_MOST, 2, [8, 80, 7, 70], [[10, 9], [], [], [7, 6]], 2)
        self.check(TARGET_AT_MOST, 1, [8, 80, 9, 90, 7, 70], [[10], [], [], [7]], 1)

    def test_brought_down_just_to_the_number_of_recent_entries(self):
        self.check(TARGET_AT_MOST, 3, [7, 70], [[10, 9, 8], [], [], [7, 6, 5]], 3)

    def test_at_or_below_the_new_most_it_stays(self):
        self.assertEqual([target(TWO_IN_EACH + [resize(most)]) for most in (1, 2, 3, 4, 5)], [1, 1, 1, 1, 1])
        self.assertEqual([target(FEWER + [resize(most)]) for most in (1, 2, 3, 4, 5)], [1, 2, 3, 3, 3])

    def test_brought_down_though_nothing_is_held(self):
        calls = TARGET_AT_MOST + [drop(key) for key in range(11)] + [resize(2)]
        self.assertEqual(ask(calls + [sizes()])[-2:], [[0], [2, 0, 0, 0, 0, 2]])

    def test_more_again_does_not_bring_it_back(self):
        self.assertEqual(target(TARGET_AT_MOST + [resize(2), resize(4)]), 2)


class KeysThatLeftTheRecentOnes(Case):
    def test_the_last_are_forgotten_till_they_and_the_recent_entries_are_most(self):
        # With 9, which goes now, four have left the recent ones.
        calls = [begin(4)] + used(1, 2, 3) + puts(5, 6, 7, 8, 9)
        self.assertEqual(row_keys(calls), [[9], [3, 2, 1], [8, 7, 6], []])
        self.check(calls, 3, [9, 90], [[], [3, 2, 1], [9, 8, 7], []], 0)
        # 1 goes too, and as 3, 2, 9, 8 are twice most, its key isn't kept.
        self.check(calls, 2, [9, 90, 1, 10], [[], [3, 2], [9, 8], []], 0)

    def test_none_where_they_and_the_recent_entries_are_just_most(self):
        calls = [begin(4)] + used(1, 2) + puts(3, 4, 5)
        self.check(calls, 3, [4, 40], [[5], [2, 1], [4, 3], []], 0)

    def test_none_where_they_and_the_recent_entries_are_fewer(self):
        calls = [begin(8)] + used(*range(1, 8)) + puts(8, 9) + [drop(1), drop(2), drop(3), drop(4)]
        self.assertEqual(row_keys(calls), [[9], [7, 6, 5], [8], []])
        self.check(calls, 4, [], [[9], [7, 6, 5], [8], []], 0)

    def test_though_nothing_goes(self):
        # 5 recent and 2 left.
        calls = [begin(4)] + used(1) + puts(2, 3, 4, 5) + [drop(1), drop(3), drop(4)]
        self.assertEqual(row_keys(calls), [[5], [], [2], []])
        self.check(calls, 2, [], [[5], [], [2], []], 0)
        self.check(calls, 1, [], [[5], [], [], []], 0)

    def test_though_nothing_is_held(self):
        calls = [begin(4)] + used(1, 2, 3) + puts(5, 6, 7, 8) + [drop(key) for key in (1, 2, 3, 8)]
        self.assertEqual(row_keys(calls), [[], [], [7, 6, 5], []])
        self.check(calls, 2, [], [[], [], [7, 6], []], 0)

    def test_they_are_forgotten_ahead_of_those_that_left_the_frequent_ones(self):
        # Seven would be known with most 3 once 6 is forgotten, so one of 3, 2 goes; two, were it the other way round.
        self.check(TWO_IN_EACH, 3, [8, 80], [[9], [5, 4], [8, 7], [3]], 1)


class KeysThatLeftTheFrequentOnes(Case):
    def test_the_last_are_forgotten_till_all_that_is_known_is_twice_most(self):
        calls = [begin(4)] + used(1, 2, 3, 4, 5, 6, 7, 8)
        self.assertEqual(row_keys(calls), [[], [8, 7, 6, 5], [], [4, 3, 2, 1]])
        self.check(calls, 3, [5, 50], [[], [8, 7, 6], [], [5, 4, 3]], 0)
        self.check(calls, 2, [5, 50, 6, 60], [[], [8, 7], [], [6, 5]], 0)

    def test_none_where_all_that_is_known_is_just_twice_most(self):
        self.check(AS_MANY, 3, [3, 30], [[6], [5, 4], [], [3, 2, 1]], 1)

    def test_none_where_all_that_is_known_is_less(self):
        self.check(AS_MANY + [drop(1)], 3, [3, 30], [[6], [5, 4], [], [3, 2]], 1)

    def test_though_nothing_goes(self):
        calls = FEWER + [drop(9), drop(8)]
        self.check(calls, 2, [], [[], [7, 6], [], [5, 4]], 2)

    def test_twice_most_may_be_known_with_nothing_held(self):
        calls = FEWER + [drop(9), drop(8), drop(7), drop(6)]
        self.check(calls, 2, [], [[], [], [], [5, 4, 3, 2]], 2)
        self.check(calls, 1, [], [[], [], [], [5, 4]], 1)


class APutBehindIt(Case):
    # Most 3, the target 1: 9 recent, 5, 4 frequent, 8, 7 left the recent ones, 3 the frequent ones; 6 and 2 forgotten.
    RESIZED = TWO_IN_EACH + [resize(3)]

    def check_put(self, key, left, rows, target_after_it):
        calls = self.RESIZED + [put(key)]
        self.assertEqual(last(calls), [0] + left)
        self.assertEqual(shown(calls)[:3], (3, rows, target_after_it))

    def test_of_a_key_that_had_left_the_recent_ones_and_is_known(self):
        self.check_put(7, [4, 40], [[9], [7, 5], [8], [4, 3]], 2)
        self.check_put(8, [4, 40], [[9], [8, 5], [7], [4, 3]], 2)

    def test_of_a_key_that_had_left_the_recent_ones_and_was_forgotten(self):
        self.check_put(6, [4, 40], [[6, 9], [5], [8], [4, 3]], 1)

    def test_of_a_key_that_had_left_the_frequent_ones_and_is_known(self):
        self.check_put(3, [9, 90], [[], [3, 5, 4], [9, 8, 7], []], 0)

    def test_of_a_key_that_had_left_the_frequent_ones_and_was_forgotten(self):
        self.check_put(2, [4, 40], [[2, 9], [5], [8], [4, 3]], 1)

    def test_of_a_key_that_was_never_known(self):
        self.check_put(11, [4, 40], [[11, 9], [5], [8], [4, 3]], 1)

    def test_of_a_key_that_is_held(self):
        self.assertEqual(last(self.RESIZED + [put(9, 91)]), [1, 9, 90])

    def test_of_a_key_that_left_by_a_resize_to_1(self):
        calls = TWO_IN_EACH + [resize(1)]
        self.assertEqual(ask(calls + [place(8), put(8), place(8)])[-3:], [[0], [0, 9, 90], [RECENT]])
        # 5 had left the frequent ones: the target falls to 0, and 9 goes.
        self.assertEqual(last(calls + [put(5)]), [0, 9, 90])
        self.assertEqual(shown(calls + [put(5)])[:3], (1, [[], [5], [9], []], 0))

    def test_behind_a_resize_to_more(self):
        calls = TWO_IN_EACH + [resize(5)]
        self.assertEqual(ask(calls + [put(7), put(2)])[-2:], [[0], [0, 8, 80]])
        self.assertEqual(shown(calls + [put(7)])[:3], (5, [[9, 8], [7, 5, 4], [6], [3, 2]], 2))
        self.assertEqual(shown(calls + [put(7), put(2)])[:3], (5, [[9], [2, 7, 5, 4], [8, 6], [3]], 1))


class ManyCases(unittest.TestCase):
    """What the document says of a resize, from what can be asked ahead of it and behind it."""

    def test_on_many_cases(self):
        for limit in (2, 3, 5, 9, 20):
            for seed in range(30):
                calls = all_nine(seed * 31 + limit, limit, 150)
                for most in (1, limit // 2 + 1, limit, limit + 1, 64):
                    with self.subTest(limit=limit, seed=seed, most=most):
                        self.check(calls, most)

    def check(self, calls, most):
        before, aim = row_keys(calls), min(target(calls), most)
        told = last(calls + [resize(most)])
        recent, frequent, left_recent, left_frequent = row_keys(calls + [resize(most)])
        surplus = max(0, len(before[0]) + len(before[1]) - most)
        gone_recent = min(surplus, max(0, len(before[0]) - aim))
        gone_frequent = surplus - gone_recent
        gone = before[0][::-1][:gone_recent] + before[1][::-1][:gone_frequent]
        self.assertEqual(told[1::2], gone)
        self.assertEqual(recent, before[0][:len(before[0]) - gone_recent])
        self.assertEqual(frequent, before[1][:len(before[1]) - gone_frequent])
        known = gone[:gone_recent][::-1] + before[2]
        self.assertEqual(left_recent, known[:most - len(recent)])
        known = gone[gone_recent:][::-1] + before[3]
        self.assertEqual(left_frequent, known[:2 * most - len(recent + frequent + left_recent)])
        self.assertEqual(target(calls + [resize(most)]), aim)
