import unittest

from tests.helpers import (
    FREQUENT, LARGEST, LEFT_FREQUENT, LEFT_RECENT, NOT_KNOWN, RECENT, ask, begin, drop, get, last, place, places, put,
    puts, target_after, used,
)


class HeldKey(unittest.TestCase):
    def test_recent_entry_is_replaced_and_used_again(self):
        calls = [begin(3)] + puts(1, 2) + [put(1, 99)]
        self.assertEqual(last(calls), [1, 1, 10])
        self.assertEqual(ask(calls + [place(1), get(1)])[-2:], [[FREQUENT], [1, 99]])

    def test_frequent_entry_is_replaced_and_used_again(self):
        calls = [begin(3)] + used(1, 2, 3) + [put(1, 99)]
        self.assertEqual(last(calls), [1, 1, 10])
        self.assertEqual(ask(calls + [place(1), get(1)])[-2:], [[FREQUENT], [1, 99]])
        self.assertEqual(ask(calls + [put(4), get(4), put(5), get(5), put(6)])[-5:], [
            [0, 2, 20], [1, 40], [0, 3, 30], [1, 50], [0, 1, 99],
        ])

    def test_recent_entry_goes_first_among_the_frequent_ones(self):
        calls = [begin(3), put(1)] + used(2, 3) + [put(1, 99)]
        self.assertEqual(ask(calls + [put(4), get(4), put(5), get(5), put(6)])[-5:], [
            [0, 2, 20], [1, 40], [0, 3, 30], [1, 50], [0, 1, 99],
        ])

    def test_the_same_value_is_told_too(self):
        self.assertEqual(last([put(1, 5), put(1, 5)]), [1, 1, 5])

    def test_nothing_else_goes_while_most_are_held(self):
        calls = [begin(2)] + puts(1, 2) + [put(1, 99), put(2, 98), put(1, 97)]
        self.assertEqual(ask(calls)[3:], [[1, 1, 10], [1, 2, 20], [1, 1, 99]])

    def test_the_target_stays(self):
        calls = [begin(4)] + used(1, 2) + puts(3, 4, 5, 3)
        self.assertEqual(target_after(calls + [put(1), put(5)], 4), 1)


class Room(unittest.TestCase):
    def test_nothing_goes_while_fewer_than_most_are_held(self):
        for most in (1, 2, 5, 64):
            with self.subTest(most=most):
                self.assertEqual(ask([begin(most)] + puts(*range(most))), [[0]] * (most + 1))
                calls = [begin(most)] + used(*range(most))
                self.assertEqual([told for told in ask(calls) if told[0] == 0], [[0]] * (most + 1))

    def test_a_key_that_left_comes_back_into_free_room(self):
        # 4, 3, 2 are frequent, 6 is recent, 1 has left the frequent ones and 5 the recent ones.
        calls = [begin(4)] + used(1, 2, 3, 4) + puts(5, 6) + [drop(3)]
        for key in (1, 5, 9):
            with self.subTest(key=key):
                self.assertEqual(last(calls + [put(key)]), [0])
        self.assertEqual(places(calls + [put(1)], (1, 2, 4, 5, 6)), {
            1: FREQUENT, 2: FREQUENT, 4: FREQUENT, 5: LEFT_RECENT, 6: RECENT,
        })


class BackAmongTheRecent(unittest.TestCase):
    """Case 1: the key had left the recent ones."""

    def test_it_stands_among_the_frequent_ones(self):
        # Before it: 2, 1 frequent, 5, 4 recent, 3 left.
        calls = [begin(4)] + used(1, 2) + puts(3, 4, 5) + [put(3, 77)]
        self.assertEqual(last(calls), [0, 4, 40])
        self.assertEqual(places(calls, range(1, 6)), {
            1: FREQUENT, 2: FREQUENT, 3: FREQUENT, 4: LEFT_RECENT, 5: RECENT,
        })
        self.assertEqual(last(calls + [get(3)]), [1, 77])

    def test_it_stands_first_among_the_frequent_ones(self):
        # Each new key is got at once, so that no recent entry goes in the place of a frequent one.
        calls = [begin(4)] + used(1, 2) + puts(3, 4, 5, 3) + [get(5)] + used(6, 7, 8, 9)
        self.assertEqual(ask(calls)[-8::2], [[0, 1, 10], [0, 2, 20], [0, 3, 30], [0, 5, 50]])

    def test_target_grows_by_1(self):
        # No key has left the frequent ones.
        calls = [begin(4)] + used(1, 2) + puts(3, 4, 5)
        self.assertEqual(target_after(calls, 4), 0)
        self.assertEqual(target_after(calls + [put(3)], 4), 1)

    def test_target_grows_by_1_where_the_quotient_is_less(self):
        # 1 has left the frequent ones, 7, 6, 5 the recent ones.
        calls = [begin(4)] + used(1, 2, 3, 4) + puts(5, 6, 7, 8)
        self.assertEqual(target_after(calls + [put(5)], 4), 1)

    def test_target_grows_by_the_quotient(self):
        # 4, 3, 2 have left the frequent ones, 8 the recent ones.
        calls = [begin(4)] + used(1, 2, 3, 4, 5, 6, 7) + puts(8, 9)
        self.assertEqual(places(calls, (2, 3, 4, 8)), {
            2: LEFT_FREQUENT, 3: LEFT_FREQUENT, 4: LEFT_FREQUENT, 8: LEFT_RECENT,
        })
        self.assertEqual(target_after(calls, 4), 0)
        self.assertEqual(last(calls + [put(8)]), [0, 5, 50])
        self.assertEqual(target_after(calls + [put(8)], 4), 3)

    def test_target_grows_by_the_quotient_rounded_down(self):
        # Five keys have left the frequent ones, 15 and 14 the recent ones.
        calls = [begin(8)] + used(*range(1, 13)) + puts(14, 15, 16)
        self.assertEqual(list(places(calls, (1, 2, 3, 4, 5)).values()), [LEFT_FREQUENT] * 5)
        self.assertEqual(places(calls, (14, 15, 16)), {14: LEFT_RECENT, 15: LEFT_RECENT, 16: RECENT})
        self.assertEqual(last(calls + [put(14)]), [0, 6, 60])
        self.assertEqual(target_after(calls + [put(14)], 8), 2)

    def test_target_stops_at_most(self):
        # The three puts make it grow by 1, by 1, and by 3 to 5; then it falls by 1 twice.
        calls = [begin(4)] + used(1, 2, 3, 4) + puts(5, 6, 7, 8, 5, 6, 7)
        self.assertEqual(ask(calls)[-3:], [[0, 2, 20], [0, 3, 30], [0, 4, 40]])
        self.assertEqual(target_after(calls, 4), 3)
        self.assertEqual(target_after(calls + [put(1)], 4), 3)
        self.assertEqual(target_after(calls + [put(1), put(2)], 4), 2)
        self.assertEqual(target_after(calls + [put(1), put(2), put(3)], 4), 1)


class BackAmongTheFrequent(unittest.TestCase):
    """Case 2: the key had left the frequent ones."""

    # Most 16, the target 4; 19 to 15 have left the recent ones and 2, 1 the frequent ones.
    FIVE_AND_TWO = (used(*range(1, 11)) + puts(*range(11, 21)) + puts(11, 12, 13, 14)
                    + puts(21, 22, 23, 24) + [drop(3)])

    def test_it_stands_among_the_frequent_ones(self):
        calls = [begin(4)] + used(1, 2, 3, 4) + puts(5) + [put(1, 77)]
        self.assertEqual(last(calls), [0, 5, 50])
        self.assertEqual(places(calls, range(1, 6)), {
            1: FREQUENT, 2: FREQUENT, 3: FREQUENT, 4: FREQUENT, 5: LEFT_RECENT,
        })
        self.assertEqual(last(calls + [get(1)]), [1, 77])

    def test_it_stands_first_among_the_frequent_ones(self):
        calls = [begin(4)] + used(1, 2, 3, 4) + puts(5, 1) + used(6, 7, 8, 9)
        self.assertEqual(ask(calls)[-8::2], [[0, 2, 20], [0, 3, 30], [0, 4, 40], [0, 1, 10]])

    def test_target_falls_by_1(self):
        # No key has left the recent ones; the target is 3 to begin with, by the quotient.
        calls = [begin(4)] + used(1, 2, 3, 4, 5, 6, 7) + puts(8, 9, 8)
        self.assertEqual(target_after(calls, 4), 3)
        self.assertEqual(target_after(calls + [put(5)], 4), 2)
        self.assertEqual(target_after(calls + [put(5), put(4)], 4), 1)

    def test_target_falls_by_the_quotient_rounded_down(self):
        calls = self.FIVE_AND_TWO
        self.assertEqual(list(places(calls, (15, 16, 17, 18, 19)).values()), [LEFT_RECENT] * 5)
        self.assertEqual(places(calls, (1, 2, 3, 20)), {
            1: LEFT_FREQUENT, 2: LEFT_FREQUENT, 3: NOT_KNOWN, 20: RECENT,
        })
        self.assertEqual(target_after(calls, 16), 4)
        self.assertEqual(last(calls + [put(1)]), [0, 20, 200])
        self.assertEqual(target_after(calls + [put(1)], 16), 2)

    def test_target_falls_by_the_whole_quotient(self):
        # Dropped till 4 keys have left the recent ones and 1 the frequent ones, the target 4.
        calls = self.FIVE_AND_TWO + [drop(2), drop(15), drop(16)]
        self.assertEqual(target_after(calls, 16), 4)
        self.assertEqual(target_after(calls + [put(1)], 16), 1)

    def test_target_stops_at_0(self):
        calls = [begin(4)] + used(1, 2, 3, 4) + puts(5, 1)
        self.assertEqual(target_after(calls, 4), 0)
        # It grows by 1 from 0: had it fallen below, it would be 0 now.
        self.assertEqual(last(calls + [put(5)]), [0, 2, 20])
        self.assertEqual(target_after(calls + [put(5)], 4), 1)

    def test_target_stops_at_0_where_the_quotient_is_more(self):
        # 5 and 1 have left: the target falls from 4 by 5, and then grows by 1.
        calls = self.FIVE_AND_TWO + [drop(2)]
        self.assertEqual(target_after(calls + [put(1)], 16), 0)
        self.assertEqual(target_after(calls + [put(1), put(15)], 16), 1)


class NotKnownA(unittest.TestCase):
    """Case 3 (a): recent entries and keys that left the recent ones are together most."""

    # Most 4: 1 frequent, 5, 4, 3 recent, 2 left the recent ones.
    ONE_LEFT = [begin(4)] + used(1) + puts(2, 3, 4, 5)

    def test_the_last_key_that_left_is_forgotten_and_room_is_made(self):
        calls = self.ONE_LEFT + [put(6)]
        self.assertEqual(last(calls), [0, 3, 30])
        self.assertEqual(places(calls, range(1, 7)), {
            1: FREQUENT, 2: NOT_KNOWN, 3: LEFT_RECENT, 4: RECENT, 5: RECENT, 6: RECENT,
        })

    def test_of_several_the_last_is_forgotten(self):
        # 8 recent; 7, 6, 5 left the recent ones.
        calls = [begin(4)] + used(1, 2, 3) + puts(5, 6, 7, 8, 9)
        self.assertEqual(places(calls, (5, 6, 7, 8, 9)), {
            5: NOT_KNOWN, 6: LEFT_RECENT, 7: LEFT_RECENT, 8: LEFT_RECENT, 9: RECENT,
        })

    def test_with_no_recent_entry_the_last_frequent_one_goes(self):
        # 8, 7, 6, 5 have left the recent ones, none is recent; 1, 4, 3, 2 are frequent.
        calls = [begin(4)] + used(1, 2, 3, 4) + puts(5, 6, 7, 8, 1)
        self.assertEqual(list(places(calls, (5, 6, 7, 8)).values()), [LEFT_RECENT] * 4)
        calls = calls + [put(9)]
        self.assertEqual(last(calls), [0, 2, 20])
        self.assertEqual(places(calls, (2, 5, 6, 9)), {2: LEFT_FREQUENT, 5: NOT_KNOWN, 6: LEFT_RECENT, 9: RECENT})

    def test_with_recent_entries_just_at_the_target_the_last_frequent_one_goes(self):
        # The target is 1, 9 is recent, 8, 7, 6 have left the recent ones, 5, 1, 4 are frequent; eight are known.
        calls = [begin(4)] + used(1, 2, 3, 4) + puts(5, 6, 7, 8, 1, 5, 9)
        self.assertEqual(target_after(calls, 4), 1)
        calls = calls + [put(10)]
        self.assertEqual(last(calls), [0, 4, 40])
        # No key that left the frequent ones is forgotten in its stead: 3 stays.
        self.assertEqual(places(calls, range(1, 11)), {
            1: FREQUENT, 2: NOT_KNOWN, 3: LEFT_FREQUENT, 4: LEFT_FREQUENT, 5: FREQUENT,
            6: NOT_KNOWN, 7: LEFT_RECENT, 8: LEFT_RECENT, 9: RECENT, 10: RECENT,
        })

    def test_the_key_is_forgotten_though_there_is_free_room(self):
        calls = self.ONE_LEFT + [drop(1), put(6)]
        self.assertEqual(last(calls), [0])
        self.assertEqual(places(calls, range(1, 7)), {
            1: NOT_KNOWN, 2: NOT_KNOWN, 3: RECENT, 4: RECENT, 5: RECENT, 6: RECENT,
        })

    def test_without_a_key_that_left_the_last_recent_entry_goes_and_is_forgotten(self):
        calls = [begin(4)] + puts(1, 2, 3, 4, 5)
        self.assertEqual(last(calls), [0, 1, 10])
        self.assertEqual(places(calls, range(1, 6)), {1: NOT_KNOWN, 2: RECENT, 3: RECENT, 4: RECENT, 5: RECENT})

    def test_without_a_key_that_left_the_recent_one_goes_whatever_the_target_says(self):
        # The target is 3 by the quotient; a scan makes all four entries recent ones.
        calls = [begin(4)] + used(1, 2, 3, 4, 5, 6, 7) + puts(8, 9, 8, 10, 11, 12)
        self.assertEqual(places(calls, (9, 10, 11, 12)), {9: RECENT, 10: RECENT, 11: RECENT, 12: RECENT})
        calls = calls + [put(13)]
        self.assertEqual(last(calls), [0, 9, 90])
        self.assertEqual(places(calls, (9, 10)), {9: NOT_KNOWN, 10: RECENT})


class NotKnownB(unittest.TestCase):
    """Case 3 (b): recent entries and keys that left the recent ones are together fewer than most."""

    # Most 4: 7, 6, 5 frequent, 8 recent; 4, 3, 2, 1 left the frequent ones: eight are known.
    ALL_KNOWN = [begin(4)] + used(1, 2, 3, 4, 5, 6, 7) + puts(8)

    def test_at_twice_most_the_last_that_left_the_frequent_ones_is_forgotten(self):
        self.assertEqual(places(self.ALL_KNOWN, range(1, 9)), {
            1: LEFT_FREQUENT, 2: LEFT_FREQUENT, 3: LEFT_FREQUENT, 4: LEFT_FREQUENT,
            5: FREQUENT, 6: FREQUENT, 7: FREQUENT, 8: RECENT,
        })
        calls = self.ALL_KNOWN + [put(9)]
        self.assertEqual(last(calls), [0, 8, 80])
        self.assertEqual(places(calls, range(1, 10)), {
            1: NOT_KNOWN, 2: LEFT_FREQUENT, 3: LEFT_FREQUENT, 4: LEFT_FREQUENT,
            5: FREQUENT, 6: FREQUENT, 7: FREQUENT, 8: LEFT_RECENT, 9: RECENT,
        })

    def test_one_below_twice_most_nothing_is_forgotten(self):
        # The key that stood last is dropped, or one between: seven are known.
        for key in (1, 3):
            with self.subTest(key=key):
                calls = self.ALL_KNOWN + [drop(key), put(9)]
                self.assertEqual(last(calls), [0, 8, 80])
                left = [other for other in (1, 2, 3, 4) if other != key]
                self.assertEqual(list(places(calls, left).values()), [LEFT_FREQUENT] * 3)

    def test_below_twice_most_room_is_made(self):
        calls = [begin(4)] + used(1, 2) + puts(3, 4, 5)
        self.assertEqual(last(calls), [0, 3, 30])
        self.assertEqual(places(calls, range(1, 6)), {
            1: FREQUENT, 2: FREQUENT, 3: LEFT_RECENT, 4: RECENT, 5: RECENT,
        })

    def test_the_new_entry_stands_first_among_the_recent_ones(self):
        calls = [begin(4)] + used(1) + puts(3, 4, 5, 6, 7, 8, 9)
        self.assertEqual(ask(calls)[-4:], [[0, 3, 30], [0, 4, 40], [0, 5, 50], [0, 6, 60]])


class OneGoes(unittest.TestCase):
    # Most 4, the target 1, as many recent entries (6); 2, 1 left the frequent ones, none the recent ones.
    AS_MANY = [begin(4)] + used(1, 2, 3, 4) + puts(5, 6, 5)

    def test_more_recent_entries_than_the_target(self):
        calls = [begin(4)] + used(1, 2) + puts(3, 4)
        self.assertEqual(last(calls + [put(5)]), [0, 3, 30])

    def test_more_by_one_than_a_target_above_0(self):
        # The target is 1, 8 and 6 are recent.
        calls = self.AS_MANY + [put(8)]
        self.assertEqual(last(calls + [put(9)]), [0, 6, 60])

    def test_just_as_many_for_a_key_that_is_not_known(self):
        self.assertEqual(target_after(self.AS_MANY, 4), 1)
        self.assertEqual(last(self.AS_MANY + [put(7)]), [0, 3, 30])

    def test_just_as_many_for_a_key_that_had_left_the_recent_ones(self):
        # The target grows to 1 and there is one recent entry, 6.
        self.assertEqual(last(self.AS_MANY), [0, 2, 20])
        self.assertEqual(places(self.AS_MANY, (2, 6)), {2: LEFT_FREQUENT, 6: RECENT})

    def test_just_as_many_for_a_key_that_had_left_the_frequent_ones(self):
        # The target falls from 4 to 3, 2 and 1; there is one recent entry, 8.
        calls = [begin(4)] + used(1, 2, 3, 4) + puts(5, 6, 7, 8, 5, 6, 7) + puts(1, 2, 3)
        self.assertEqual(ask(calls)[-3:], [[0, 5, 50], [0, 6, 60], [0, 8, 80]])
        self.assertEqual(places(calls, (8, 7)), {8: LEFT_RECENT, 7: FREQUENT})

    def test_fewer_recent_entries_than_the_target(self):
        # The target is 3; 9 is recent.
        calls = [begin(4)] + used(1, 2, 3, 4, 5, 6, 7) + puts(8, 9, 8)
        self.assertEqual(ask(calls + puts(10))[-2:], [[0, 5, 50], [0, 6, 60]])
        self.assertEqual(last(calls + [put(4)]), [0, 6, 60])

    def test_no_recent_entry(self):
        calls = [begin(3)] + used(1, 2, 3)
        self.assertEqual(last(calls + [put(4)]), [0, 1, 10])

    def test_no_recent_entry_for_a_key_that_had_left_the_frequent_ones(self):
        # The target is 0 and so is the number of recent entries: just as many, but there is none.
        calls = [begin(2)] + used(1, 2, 3)
        self.assertEqual(last(calls + [put(1)]), [0, 2, 20])
        self.assertEqual(places(calls + [put(1)], (1, 2, 3)), {1: FREQUENT, 2: LEFT_FREQUENT, 3: FREQUENT})

    def test_what_left_last_stands_first(self):
        # 3, 2, 1 leave the frequent ones in turn; the first of them is forgotten last.
        calls = [begin(3)] + used(1, 2, 3, 4, 5, 6)
        self.assertEqual(places(calls + [put(7)], (1, 2, 3)), dict.fromkeys((1, 2, 3), LEFT_FREQUENT) | {1: NOT_KNOWN})
        later = calls + [put(7), get(7), put(8)]
        self.assertEqual(places(later, (2, 3, 4, 5)), {
            2: NOT_KNOWN, 3: LEFT_FREQUENT, 4: LEFT_FREQUENT, 5: LEFT_FREQUENT,
        })


class SmallAndLarge(unittest.TestCase):
    def test_keys_and_values_at_the_edges(self):
        for key, value in ((0, 0), (0, LARGEST), (LARGEST, 0), (LARGEST, LARGEST)):
            with self.subTest(key=key, value=value):
                told = ask([begin(1), put(key, value), place(key), get(key), put(key, 7), put(key, value), drop(key)])
                self.assertEqual(told, [
                    [0], [0], [RECENT], [1, value], [1, key, value], [1, key, 7], [2, key, value],
                ])
                self.assertEqual(last([begin(1), put(key, value), put(5, 6)]), [0, key, value])

    def test_key_and_value_are_not_mixed_up(self):
        calls = [begin(2), put(0, LARGEST), put(LARGEST, 0), put(0, 1), put(LARGEST, 2), put(5, 6)]
        self.assertEqual(ask(calls)[3:], [[1, 0, LARGEST], [1, LARGEST, 0], [0, 0, 1]])

    def test_most_1(self):
        calls = [begin(1), put(1), put(2), get(2), put(3), place(2), put(2), place(3), put(4), place(2), place(3)]
        self.assertEqual(ask(calls), [
            [0], [0], [0, 1, 10], [1, 20], [0, 2, 20], [LEFT_FREQUENT],
            # The target can't fall: the one recent entry goes.
            [0, 3, 30], [LEFT_RECENT],
            # 3 fills what may be kept beside the recent ones: it is forgotten, and 2 goes.
            [0, 2, 20], [LEFT_FREQUENT], [NOT_KNOWN],
        ])

    def test_most_1_with_a_grown_target(self):
        calls = [begin(1)] + used(1) + puts(2, 1) + [put(2), place(2), place(1), put(3), place(2), place(1)]
        self.assertEqual(ask(calls)[3:], [
            [0, 1, 10], [0, 2, 20], [0, 1, 10], [FREQUENT], [LEFT_FREQUENT], [0, 2, 20], [LEFT_FREQUENT], [NOT_KNOWN],
        ])
