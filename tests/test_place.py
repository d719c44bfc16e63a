import unittest

from tests.helpers import (
    FREQUENT, LARGEST, LEFT_FREQUENT, LEFT_RECENT, NOT_KNOWN, RECENT, ask, begin, drop, get, last, place, places, put,
    puts, used,
)

# Most 4: 4, 3, 2 are frequent, 6 is recent, 1 has left the frequent ones and 5 the recent ones.
BOTH_LEFT = [begin(4)] + used(1, 2, 3, 4) + puts(5, 6)


class Place(unittest.TestCase):
    def test_each_of_the_five(self):
        self.assertEqual(last(BOTH_LEFT + [place(6)]), [RECENT])
        self.assertEqual(last(BOTH_LEFT + [place(3)]), [FREQUENT])
        self.assertEqual(last(BOTH_LEFT + [place(5)]), [LEFT_RECENT])
        self.assertEqual(last(BOTH_LEFT + [place(1)]), [LEFT_FREQUENT])
        self.assertEqual(last(BOTH_LEFT + [place(7)]), [NOT_KNOWN])
        self.assertEqual((RECENT, FREQUENT, LEFT_RECENT, LEFT_FREQUENT, NOT_KNOWN), (1, 2, 3, 4, 0))

    def test_through_the_life_of_a_key(self):
        calls = [begin(2), place(1), put(1), place(1), get(1), place(1), put(2), get(2), put(3), place(1),
                 put(1), place(1), drop(1), place(1)]
        told = ask(calls)
        self.assertEqual([told[at] for at in range(len(calls)) if calls[at] == place(1)], [
            [NOT_KNOWN], [RECENT], [FREQUENT], [LEFT_FREQUENT], [FREQUENT], [NOT_KNOWN],
        ])

    def test_the_key_is_no_longer_among_those_that_left(self):
        for key in (1, 5):
            with self.subTest(key=key):
                self.assertEqual(places(BOTH_LEFT + [put(key)], (key,)), {key: FREQUENT})
                self.assertEqual(ask(BOTH_LEFT + [put(key), drop(key), place(key)])[-1], [NOT_KNOWN])

    def test_asking_changes_nothing(self):
        calls = BOTH_LEFT + puts(7, 5, 8, 1, 9, 3, 6, 2) + [get(8), drop(9)] + puts(10, 11, 4, 12)
        asked = [(0, LARGEST)]
        for call in calls:
            asked.extend([call] + [place(key) for key in range(1, 13)])
        told = ask(asked)
        self.assertEqual(told[1::13], ask(calls))
