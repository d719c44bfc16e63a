import copy
import unittest
from collections import deque

from tests.cases import Dice, all_nine, mixed, mixed_with_begins, one_call
from tests.helpers import ROWS, ask, begin, drop, flush, get, nth, place, put, resize, sizes
from tests.reference import Reference


def told_by_reference(calls):
    reference = Reference()
    return [reference.call(call) for call in calls]


class LongCases(unittest.TestCase):
    def check(self, calls):
        told, expected = ask(calls), told_by_reference(calls)
        for at, call in enumerate(calls):
            if told[at] != expected[at]:
                self.fail(f"call {at}, {call}, answers {told[at]}, not {expected[at]}, in {calls[:at + 1]}")

    def test_400_calls_with_each_most(self):
        for most in list(range(1, 13)) + [16, 31, 32, 63, 64]:
            for keys in (most + 1, 2 * most, 2 * most + 5, 4 * most + 10):
                with self.subTest(most=most, keys=keys):
                    self.check(mixed(most * 1000 + keys, most, keys, 400))

    def test_400_calls_with_begins_among_them(self):
        for seed in range(40):
            with self.subTest(seed=seed):
                self.check(mixed_with_begins(seed, 400))

    def test_400_calls_of_all_nine_numbers(self):
        for limit in (1, 2, 3, 4, 6, 10, 17, 32, 64):
            for seed in range(20):
                with self.subTest(limit=limit, seed=seed):
                    self.check(all_nine(seed * 100 + limit, limit, 400))


class EveryState(unittest.TestCase):
    """Each state that can come about with a few keys, each call in it, and a few calls behind."""

    def check_all(self, most, keys, others=()):
        first = Reference()
        first.begin(most)
        seen = {first.state()}
        waiting = deque([(first, [begin(most)])])
        while waiting:
            reference, path = waiting.popleft()
            for call in [kind(key) for kind in (put, get, drop) for key in range(keys)] + list(others):
                after = copy.deepcopy(reference)
                expected = [after.call(call)]
                longer = path + [call]
                if after.state() not in seen:
                    seen.add(after.state())
                    waiting.append((copy.deepcopy(after), longer))
                tail = self.questions(after, keys) + self.tail(len(seen) + sum(call), keys)
                expected.extend(after.call(one) for one in tail)
                self.assertEqual(ask(longer + tail)[len(path):], expected, longer + tail)
        return len(seen)

    def questions(self, reference, keys):
        """What shows the whole state but the values."""
        rows = [nth(row, i) for row in ROWS for i in range(reference.size(row) + 1)]
        return [sizes()] + rows + [place(key) for key in range(keys)]

    def tail(self, seed, keys):
        """What shows the values, and that the state acts as it is told."""
        dice = Dice(seed)
        return [one_call(dice, keys + 1, 1000 + at) for at in range(12)]

    def test_most_1(self):
        self.assertGreater(self.check_all(1, 3), 50)

    def test_most_1_and_2(self):
        self.assertGreater(self.check_all(2, 4, [resize(1), resize(2), flush()]), 1300)

    def test_most_1_to_3(self):
        self.assertGreater(self.check_all(3, 3, [resize(1), resize(2), resize(3), flush(), resize(0)]), 500)
