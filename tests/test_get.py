import unittest

from tests.helpers import (
    FREQUENT, LEFT_FREQUENT, LEFT_RECENT, NOT_KNOWN, ask, begin, get, last, place, places, put, puts, target_after,
    used,
)

# Most 4: 4, 3, 2 are frequent, 6 is recent, 1 has left the frequent ones and 5 the recent ones.
BOTH_LEFT = [begin(4)] + used(1, 2, 3, 4) + puts(5, 6)


class Held(unittest.TestCase):
    def test_recent_entry_is_used_again(self):
        calls = [begin(3)] + puts(1, 2, 3) + [get(1)]
        self.assertEqual(last(calls), [1, 10])
        self.assertEqual(last(calls + [place(1)]), [FREQUENT])

    def test_recent_entry_goes_to_the_front_of_the_frequent_ones(self):
        calls = [begin(3)] + used(1, 2) + [put(3), get(3)]
        self.assertEqual(ask(calls + [put(4), get(4), put(5), get(5)])[len(calls):], [
            [0, 1, 10], [1, 40], [0, 2, 20], [1, 50],
        ])

    def test_frequent_entry_goes_to_the_front(self):
        calls = [begin(3)] + used(1, 2, 3) + [get(1)]
        self.assertEqual(last(calls), [1, 10])
        self.assertEqual(last(calls + [put(4)]), [0, 2, 20])

    def test_it_stands_after_being_got_twice(self):
        calls = [begin(2), put(1), get(1), get(1), get(1)]
        self.assertEqual(ask(calls)[2:], [[1, 10]] * 3)
        self.assertEqual(last(calls + [place(1)]), [FREQUENT])


class NotHeld(unittest.TestCase):
    def test_key_alone_is_kept(self):
        self.assertEqual(places(BOTH_LEFT, (1, 5)), {1: LEFT_FREQUENT, 5: LEFT_RECENT})
        for key, where in ((1, LEFT_FREQUENT), (5, LEFT_RECENT)):
            with self.subTest(key=key):
                self.assertEqual(ask(BOTH_LEFT + [get(key), get(key), place(key)])[-3:], [[0], [0], [where]])

    def test_key_is_not_known(self):
        self.assertEqual(ask(BOTH_LEFT + [get(9), place(9)])[-2:], [[0], [NOT_KNOWN]])

    def test_nothing_changes(self):
        keys = range(1, 10)
        for key in (1, 5, 9):
            with self.subTest(key=key):
                asked = BOTH_LEFT + [get(key)]
                self.assertEqual(places(asked, keys), places(BOTH_LEFT, keys))
                self.assertEqual(target_after(asked, 4), target_after(BOTH_LEFT, 4))

    def test_the_order_of_what_left_stays(self):
        # 5 stands last of those that left the recent ones: it is the next to be forgotten.
        calls = [begin(4)] + used(1) + puts(5, 6, 7, 8)
        self.assertEqual(places(calls + [put(9)], (5, 6)), {5: NOT_KNOWN, 6: LEFT_RECENT})
        self.assertEqual(places(calls + [get(5), put(9)], (5, 6)), {5: NOT_KNOWN, 6: LEFT_RECENT})
