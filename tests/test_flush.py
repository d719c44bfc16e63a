import unittest

from tests.helpers import (
    LARGEST, NOT_KNOWN, RECENT, ask, begin, drop, flush, get, last, place, places, put, puts, resize, row_keys, shown,
    sizes, used,
)

# Most 4, the target 1: 9, 8 recent, 5, 4 frequent, 7, 6 left the recent ones, 3, 2 left the frequent ones.
TWO_IN_EACH = [begin(4)] + used(1, 2, 3, 4) + puts(5, 6, 7, 8, 5, 9)


class NothingHeld(unittest.TestCase):
    def test_a_new_object(self):
        self.assertEqual(ask([flush()]), [[0]])

    def test_behind_a_begin(self):
        self.assertEqual(last(TWO_IN_EACH + [begin(3), flush()]), [0])

    def test_behind_a_flush(self):
        self.assertEqual(last(TWO_IN_EACH + [flush(), flush()]), [0])

    def test_all_dropped(self):
        self.assertEqual(last(puts(1, 2) + [drop(1), drop(2), flush()]), [0])

    def test_where_keys_alone_were_kept(self):
        calls = TWO_IN_EACH + [drop(9), drop(8), drop(5), drop(4)]
        self.assertEqual(last(calls + [sizes()]), [4, 0, 0, 2, 2, 1])
        self.assertEqual(last(calls + [flush()]), [0])
        self.assertEqual(last(calls + [flush(), sizes()]), [4, 0, 0, 0, 0, 0])
        self.assertEqual(places(calls + [flush()], (7, 6, 3, 2)), dict.fromkeys((7, 6, 3, 2), NOT_KNOWN))


class WhatLeft(unittest.TestCase):
    def test_recent_and_frequent_entries_from_the_last_to_the_first_the_recent_ones_ahead(self):
        self.assertEqual(last(TWO_IN_EACH + [flush()]), [4, 8, 80, 9, 90, 4, 40, 5, 50])

    def test_recent_entries_alone(self):
        self.assertEqual(last(puts(3, 1, 2) + [flush()]), [3, 3, 30, 1, 10, 2, 20])

    def test_frequent_entries_alone(self):
        calls = used(3, 1, 2) + [get(1)]
        self.assertEqual(last(calls + [flush()]), [3, 3, 30, 2, 20, 1, 10])

    def test_one_entry(self):
        self.assertEqual(last([put(7, 8), flush()]), [1, 7, 8])

    def test_the_last_values(self):
        self.assertEqual(last([put(1), put(2), put(1, 11), put(3), put(3, 33), flush()]), [3, 2, 20, 1, 11, 3, 33])

    def test_64_entries(self):
        calls = [begin(64)] + puts(*range(1, 33)) + used(*range(33, 65)) + [flush()]
        self.assertEqual(last(calls), [64] + [number for key in range(1, 65) for number in (key, key * 10)])

    def test_keys_and_values_at_the_edges(self):
        self.assertEqual(last([put(0, LARGEST), put(LARGEST, 0), flush()]), [2, 0, LARGEST, LARGEST, 0])

    def test_behind_a_resize(self):
        self.assertEqual(last(TWO_IN_EACH + [resize(3), flush()]), [3, 9, 90, 4, 40, 5, 50])


class BehindIt(unittest.TestCase):
    def test_nothing_is_held_or_known(self):
        calls = TWO_IN_EACH + [flush()]
        self.assertEqual(places(calls, range(1, 10)), dict.fromkeys(range(1, 10), NOT_KNOWN))
        self.assertEqual(row_keys(calls), [[], [], [], []])
        for key in range(1, 10):
            self.assertEqual(ask(calls + [get(key), drop(key)])[-2:], [[0], [0]])

    def test_the_target_is_0_and_most_as_before(self):
        self.assertEqual(last([flush(), sizes()]), [16, 0, 0, 0, 0, 0])
        self.assertEqual(last(TWO_IN_EACH + [flush(), sizes()]), [4, 0, 0, 0, 0, 0])
        for most in (1, 2, 5, 64):
            with self.subTest(most=most):
                self.assertEqual(last(TWO_IN_EACH + [resize(most), flush(), sizes()]), [most, 0, 0, 0, 0, 0])
                self.assertEqual(last(TWO_IN_EACH + [begin(most), put(1), flush(), sizes()]), [most, 0, 0, 0, 0, 0])

    def test_it_is_as_behind_a_begin(self):
        tail = puts(9, 3, 7, 1, 2, 9) + [get(2)] + puts(4, 5, 6, 7, 3, 1)
        for most in (1, 2, 3, 4, 7):
            with self.subTest(most=most):
                flushed = TWO_IN_EACH + [resize(most), flush()]
                begun = [begin(most)]
                self.assertEqual(ask(flushed + tail)[len(flushed):], ask(begun + tail)[1:])
                self.assertEqual(shown(flushed + tail), shown(begun + tail))

    def test_a_put_comes_as_a_new_key(self):
        for key in (9, 5, 7, 3):
            with self.subTest(key=key):
                calls = TWO_IN_EACH + [flush(), put(key), place(key), sizes()]
                self.assertEqual(ask(calls)[-3:], [[0], [RECENT], [4, 1, 0, 0, 0, 0]])

    def test_nothing_is_told_again(self):
        calls = TWO_IN_EACH + [flush()] + puts(10, 11) + [flush()]
        self.assertEqual(last(calls), [2, 10, 100, 11, 110])
