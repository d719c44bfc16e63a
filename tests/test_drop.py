import unittest

from tests.helpers import (
    FREQUENT, LEFT_FREQUENT, LEFT_RECENT, NOT_KNOWN, RECENT, ask, begin, drop, get, last, place, places, put, puts,
    target_after, used,
)

# Most 4: 4, 3, 2 are frequent, 6 is recent, 1 has left the frequent ones and 5 the recent ones.
BOTH_LEFT = [begin(4)] + used(1, 2, 3, 4) + puts(5, 6)


class Drop(unittest.TestCase):
    def test_the_places_at_first(self):
        self.assertEqual(places(BOTH_LEFT, range(1, 8)), {
            1: LEFT_FREQUENT, 2: FREQUENT, 3: FREQUENT, 4: FREQUENT, 5: LEFT_RECENT, 6: RECENT, 7: NOT_KNOWN,
        })

    def test_each_place_and_then_again(self):
        expected = {6: [2, 6, 60], 3: [2, 3, 30], 5: [1], 1: [1], 7: [0]}
        for key, answer in expected.items():
            with self.subTest(key=key):
                told = ask(BOTH_LEFT + [drop(key), drop(key), get(key), place(key)])[-4:]
                self.assertEqual(told, [answer, [0], [0], [NOT_KNOWN]])

    def test_nothing_else_changes(self):
        keys = range(1, 8)
        for key in keys:
            with self.subTest(key=key):
                expected = dict(places(BOTH_LEFT, keys))
                expected[key] = NOT_KNOWN
                self.assertEqual(places(BOTH_LEFT + [drop(key)], keys), expected)

    def test_the_target_stays(self):
        calls = [begin(4)] + used(1, 2) + puts(3, 4, 5, 3)
        self.assertEqual(target_after(calls, 4), 1)
        self.assertEqual(target_after(calls + [drop(4)], 4), 1)
        self.assertEqual(target_after(calls + [drop(1), put(7)], 4), 1)

    def test_the_last_value_is_told(self):
        self.assertEqual(last([put(1, 5), put(1, 6), drop(1)]), [2, 1, 6])

    def test_it_makes_room(self):
        for key in (3, 6):
            with self.subTest(key=key):
                self.assertEqual(last(BOTH_LEFT + [drop(key), put(8)]), [0])

    def test_a_dropped_key_comes_back_as_a_new_one(self):
        for key in (1, 3, 5, 6):
            with self.subTest(key=key):
                calls = BOTH_LEFT + [drop(key), put(key)]
                self.assertEqual(last(calls + [place(key)]), [RECENT])
                self.assertEqual(target_after(calls, 4), 0)

    def test_a_dropped_value_is_not_told_again(self):
        told = ask([begin(1), put(1), drop(1), put(2), put(3), put(1), put(4)])
        self.assertEqual(told, [[0], [0], [2, 1, 10], [0], [0, 2, 20], [0, 3, 30], [0, 1, 10]])
