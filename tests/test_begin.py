import unittest

from tests.helpers import (
    FREQUENT, LARGEST, LEFT_RECENT, NOT_KNOWN, RECENT, ask, begin, get, last, place, places, put, puts, target_after,
    used,
)

# Most 4, the target 1: 3 is back among the frequent ones, 4 has left the recent ones.
SETTLED = [begin(4)] + used(1, 2) + puts(3, 4, 5, 3)


class NewObject(unittest.TestCase):
    def test_nothing_is_known(self):
        self.assertEqual(ask([place(0), get(0), place(1)]), [[0], [0], [0]])

    def test_most_is_16(self):
        self.assertEqual(ask(puts(*range(16))), [[0]] * 16)
        self.assertEqual(last(puts(*range(17))), [0, 0, 0])

    def test_target_is_0(self):
        self.assertEqual(target_after(used(*range(16)), 16), 0)


class Begin(unittest.TestCase):
    def test_smallest_and_largest_most(self):
        for most in (1, 64):
            with self.subTest(most=most):
                calls = [begin(most)] + puts(*range(most))
                self.assertEqual(ask(calls), [[0]] * (most + 1))
                self.assertEqual(last(calls + [put(most)]), [0, 0, 0])

    def test_every_most_that_may_be(self):
        self.assertEqual(ask([begin(most) for most in range(1, 65)]), [[0]] * 64)

    def test_refusal_is_alone(self):
        for most in (0, 65, 66, 128, LARGEST):
            with self.subTest(most=most):
                self.assertEqual(ask([begin(most)]), [[-1]])

    def test_refusal_changes_nothing(self):
        keys = range(7)
        for most in (0, 65, LARGEST):
            with self.subTest(most=most):
                refused = SETTLED + [begin(most)]
                self.assertEqual(last(refused), [-1])
                self.assertEqual(places(refused, keys), places(SETTLED, keys))
                self.assertEqual(target_after(refused, 4), 1)
                for key in (1, 2, 3, 5):
                    self.assertEqual(last(refused + [get(key)]), [1, key * 10])
                self.assertEqual(last(refused + [put(6)]), [0, 1, 10])

    def test_refusal_as_the_first_call_leaves_most_16(self):
        self.assertEqual(ask([begin(65)] + puts(*range(17))), [[-1]] + [[0]] * 16 + [[0, 0, 0]])

    def test_nothing_is_held_or_known_after_it(self):
        self.assertEqual(places(SETTLED, range(1, 6)), {
            1: FREQUENT, 2: FREQUENT, 3: FREQUENT, 4: LEFT_RECENT, 5: RECENT,
        })
        again = SETTLED + [begin(4)]
        self.assertEqual(last(again), [0])
        self.assertEqual(places(again, range(1, 6)), dict.fromkeys(range(1, 6), NOT_KNOWN))
        for key in range(1, 6):
            self.assertEqual(last(again + [get(key)]), [0])

    def test_nothing_is_told_later_of_what_was_held(self):
        again = SETTLED + [begin(2)] + puts(1, 2, 3, 4, 5)
        self.assertEqual(ask(again)[len(SETTLED):], [[0], [0], [0], [0, 1, 10], [0, 2, 20], [0, 3, 30]])

    def test_target_is_0_after_it(self):
        self.assertEqual(target_after(SETTLED, 4), 1)
        self.assertEqual(target_after(SETTLED + [begin(4)] + used(1, 2, 3, 4), 4), 0)

    def test_most_is_the_new_one(self):
        self.assertEqual(last(SETTLED + [begin(2)] + puts(1, 2, 3)), [0, 1, 10])
        self.assertEqual(ask(SETTLED + [begin(5)] + puts(1, 2, 3, 4, 5))[len(SETTLED):], [[0]] * 6)
