import unittest

from tests.cases import all_nine, mixed
from tests.helpers import (
    FREQUENT, LEFT_FREQUENT, LEFT_RECENT, RECENT, ROWS, SCAN_FROM, ask, begin, drop, flush, get, in_place, last, place,
    places, put, puts, resize, row_keys, scan, shown, sizes, target, target_after, used,
)
from tests.reference import Reference


def what_left(call, answer):
    """The entries that an answer tells as gone, of a put, a drop, a resize or a flush."""
    if call[0] in (2, 7, 8) or (call[0] == 3 and answer[0] == 2):
        return list(zip(answer[1::2], answer[2::2]))
    return []


class ValuesAreHeldOrTold(unittest.TestCase):
    """Promises 1, 3 and 5, from calls and answers alone."""

    def follow(self, calls):
        """Follows the answers; gives back what must be held at the end."""
        held = {}
        most = 16
        for call, answer in zip(calls, ask(calls)):
            number, key = call[0], call[-1]
            if number in (0, 7) and answer[0] == 0:
                most = key
            if number == 0 and answer[0] == 0:
                held = {}
            elif number == 1:
                self.assertEqual(answer, [1, held[key]] if key in held else [0])
            elif number == 2:
                self.follow_put(held, most, call, answer)
            elif number in (7, 8):
                self.follow_resize_or_flush(held, most, call, answer)
            elif number == 3 and key in held:
                self.assertEqual(answer, [2, key, held.pop(key)])
            elif number == 4:
                self.assertEqual(answer[0] in (RECENT, FREQUENT), key in held)
            elif number == 6:
                self.assertEqual((answer[0], answer[1] + answer[2]), (most, len(held)))
            self.assertLessEqual(len(held), most)
        return held

    def follow_resize_or_flush(self, held, most, call, answer):
        left = what_left(call, answer)
        count = len(held)
        for key, value in left:
            self.assertEqual(held.pop(key), value)
        if call[0] == 8:
            self.assertEqual((answer[0], held), (count, {}))
        elif answer[0] == 0:
            # Nothing leaves before it must.
            self.assertEqual(len(left), max(0, count - most))

    def follow_put(self, held, most, call, answer):
        left = what_left(call, answer)
        self.assertLessEqual(len(left), 1)
        self.assertEqual(answer[0], 1 if call[1] in held else 0)
        if answer[0] == 1:
            self.assertEqual(left, [(call[1], held[call[1]])])
        if answer[0] == 0 and len(held) < most:
            self.assertEqual(left, [])
        for key, value in left:
            self.assertEqual(held.pop(key), value)
        held[call[1]] = call[2]

    def test_on_many_cases(self):
        for most in (1, 2, 3, 4, 7, 16, 64):
            for seed in range(8):
                with self.subTest(most=most, seed=seed):
                    keys = most + 1 + seed * most // 2
                    calls = mixed(seed * 100 + most, most, keys, 330)
                    held = self.follow(calls)
                    told = ask(calls + [get(key) for key in held])[len(calls):]
                    self.assertEqual(told, [[1, value] for value in held.values()])

    def test_on_many_cases_of_all_nine_numbers(self):
        for limit in (1, 2, 3, 4, 7, 16, 64):
            for seed in range(20):
                with self.subTest(limit=limit, seed=seed):
                    calls = all_nine(seed * 100 + limit, limit, 330)
                    held = self.follow(calls)
                    told = ask(calls + [get(key) for key in held])[len(calls):]
                    self.assertEqual(told, [[1, value] for value in held.values()])

    def test_every_value_is_told_just_once_over_resize_and_flush(self):
        for limit in (1, 2, 5, 20):
            for seed in range(10):
                calls = [call for call in all_nine(seed * 37 + limit, limit, 399) if call[0] != 0] + [flush()]
                told = [entry for call, answer in zip(calls, ask(calls)) for entry in what_left(call, answer)]
                self.assertEqual(sorted(told), sorted((call[1], call[2]) for call in calls if call[0] == 2))

    def test_by_hand_over_resize_and_flush(self):
        calls = [begin(3), put(1, 11), put(2, 22), put(3, 33), get(1), resize(2), put(4, 44), flush(), get(1), get(4)]
        self.assertEqual(ask(calls)[4:], [[1, 11], [0, 2, 22], [0, 3, 33], [2, 4, 44, 1, 11], [0], [0]])

    def test_every_value_is_told_just_once(self):
        for most in (1, 2, 5, 20):
            with self.subTest(most=most):
                calls = mixed(most, most, 2 * most + 2, 300)
                calls = calls + [drop(key) for key in range(2 * most + 2)]
                told = [entry for call, answer in zip(calls, ask(calls)) for entry in what_left(call, answer)]
                self.assertEqual(sorted(told), sorted((call[1], call[2]) for call in calls if call[0] == 2))


class Bounds(unittest.TestCase):
    """Promise 2, by asking for the place of each key behind each call."""

    def check(self, calls, most, keys):
        asked = []
        for call in calls:
            asked.extend([call] + [place(key) for key in range(keys)])
        told = ask(asked)
        for at in range(0, len(told), keys + 1):
            where = [answer[0] for answer in told[at + 1:at + keys + 1]]
            recent, frequent = where.count(RECENT), where.count(FREQUENT)
            left_recent, left_frequent = where.count(LEFT_RECENT), where.count(LEFT_FREQUENT)
            self.assertLessEqual(recent + frequent, most)
            self.assertLessEqual(recent + left_recent, most)
            self.assertLessEqual(recent + frequent + left_recent + left_frequent, 2 * most)

    def test_on_many_cases(self):
        for most in (1, 2, 3, 4, 8):
            keys = 2 * most + 3
            for seed in range(30):
                with self.subTest(most=most, seed=seed):
                    self.check(mixed(seed * 10 + most, most, keys, 400 // (keys + 1)), most, keys)

    def check_sizes(self, told):
        most, recent, frequent, left_recent, left_frequent, aim = told
        self.assertLessEqual(recent + frequent, most)
        self.assertLessEqual(recent + left_recent, most)
        self.assertLessEqual(recent + frequent + left_recent + left_frequent, 2 * most)
        self.assertLessEqual(aim, most)
        self.assertGreaterEqual(min(told), 0)

    def test_behind_each_call_of_all_nine_numbers(self):
        for limit in (1, 2, 3, 4, 8, 20, 64):
            for seed in range(20):
                with self.subTest(limit=limit, seed=seed):
                    calls = all_nine(seed * 41 + limit, limit, 200)
                    for told in ask([one for call in calls for one in (call, sizes())])[1::2]:
                        self.check_sizes(told)

    def test_behind_a_resize_to_each_most(self):
        for limit in (1, 2, 3, 5, 12):
            for seed in range(20):
                calls = all_nine(seed * 43 + limit, limit, 150)
                for most in range(1, 2 * limit + 1):
                    told = last(calls + [resize(most), sizes()])
                    self.assertEqual(told[0], most)
                    self.check_sizes(told)

    def test_no_key_stands_in_two_rows_or_twice_in_one(self):
        for limit in (1, 2, 3, 5, 12):
            for seed in range(30):
                calls = all_nine(seed * 47 + limit, limit, 200)
                rows = row_keys(calls)
                keys = [key for row in rows for key in row]
                self.assertEqual(len(keys), len(set(keys)))
                told = ask(calls + [place(key) for key in keys])[len(calls):]
                self.assertEqual(told, [[row] for row, line in zip(ROWS, rows) for key in line])

    def test_no_key_is_in_two_places(self):
        # Were it, it would be found again behind the drop.
        for most in (1, 2, 3, 5):
            for seed in range(30):
                calls = mixed(seed * 7 + most, most, 2 * most + 2, 200)
                for key in range(2 * most + 2):
                    self.assertEqual(ask(calls + [drop(key), place(key), get(key), drop(key)])[-3:], [[0]] * 3)


class Scan(unittest.TestCase):
    """Promise 4: a scan of keys that are used once leaves the frequent entries that were used last."""

    def stay(self, calls, count, order, least):
        """Checks that of the frequent entries, the last used ahead, at least so many stay, and no others."""
        kept = in_place(calls + scan(count), order, FREQUENT)
        self.assertGreaterEqual(len(kept), min(least, len(order)))
        self.assertEqual(kept, order[:len(kept)])

    def test_target_0(self):
        for most in (1, 2, 3, 16, 64):
            for count in (1, most, 2 * most, 200):
                with self.subTest(most=most, count=count):
                    order = list(range(most, 0, -1))
                    self.stay([begin(most)] + used(*range(1, most + 1)), count, order, most - 1)

    def test_all_stay_if_there_are_fewer(self):
        calls = [begin(8)] + used(1, 2, 3) + puts(4, 5)
        self.assertEqual(in_place(calls + scan(300), (3, 2, 1), FREQUENT), [3, 2, 1])

    def test_used_again_by_get_and_by_put(self):
        calls = [begin(4)] + used(1, 2, 3, 4) + [get(1), put(2)]
        self.assertEqual(in_place(calls + scan(300), (1, 2, 3, 4), FREQUENT), [1, 2, 4])

    def test_target_above_0(self):
        calls = [begin(8)] + used(*range(1, 13)) + puts(14, 15, 16, 14)
        self.assertEqual(target_after(calls, 8), 2)
        self.stay(calls, 300, [14, 12, 11, 10, 9, 8, 7], 8 - 2 - 1)

    def test_on_many_cases(self):
        for most in (1, 2, 3, 5, 9):
            for seed in range(20):
                with self.subTest(most=most, seed=seed):
                    calls = mixed(seed * 13 + most, most, 2 * most + 2, 150)
                    reference = Reference()
                    for call in calls:
                        reference.call(call)
                    order = reference.row(FREQUENT)
                    for count in (1, 3, 40, 200):
                        self.stay(calls, count, order, most - reference.target - 1)

    def test_behind_resizes(self):
        for limit in (1, 2, 3, 5, 9):
            for seed in range(20):
                with self.subTest(limit=limit, seed=seed):
                    calls = all_nine(seed * 53 + limit, limit, 150)
                    calls = calls + [resize(1 + seed % (limit + 2))]
                    told = last(calls + [sizes()])
                    for count in (1, 3, 40, 200):
                        self.stay(calls, count, row_keys(calls)[1], told[0] - told[5] - 1)

    def test_the_scanned_keys_are_forgotten(self):
        calls = [begin(4)] + used(1, 2, 3, 4) + scan(300)
        self.assertEqual(in_place(calls, range(SCAN_FROM, SCAN_FROM + 296), 0), list(range(SCAN_FROM, SCAN_FROM + 296)))


class TargetMoves(unittest.TestCase):
    """Promise 6: it grows for a key that left the recent ones, falls for one that left the frequent ones."""

    def test_up_and_down_as_far_as_it_can(self):
        calls = [begin(8)] + used(*range(1, 9)) + puts(*range(9, 17))
        seen = [target(calls)]
        for step in range(40):
            keys = in_place(calls, range(1, 17), LEFT_RECENT if step < 12 else LEFT_FREQUENT)
            if keys:
                calls = calls + [put(keys[0])]
                seen.append(target(calls))
        top = seen.index(max(seen))
        self.assertEqual((seen[0], max(seen), seen[-1]), (0, 8, 0))
        self.assertEqual(seen[:top + 1], sorted(seen[:top + 1]))
        self.assertEqual(seen[top:], sorted(seen[top:], reverse=True))

    def test_each_comeback_moves_it(self):
        for most in (2, 3, 5, 9):
            for seed in range(10):
                calls = mixed(seed * 17 + most, most, 2 * most + 2, 120)
                self.check_moves(calls, range(2 * most + 2))

    def test_each_comeback_moves_it_behind_resizes(self):
        for limit in (2, 3, 5, 9):
            for seed in range(20):
                calls = all_nine(seed * 59 + limit, limit, 120) + [resize(1 + seed % limit)]
                self.check_moves(calls, range(2 * limit + 3))

    def check_moves(self, calls, keys):
        most, recent, frequent, left_recent, left_frequent, before = last(calls + [sizes()])
        for key, where in places(calls, keys).items():
            after = before
            if where == LEFT_RECENT:
                after = min(most, before + max(1, left_frequent // left_recent))
            elif where == LEFT_FREQUENT:
                after = max(0, before - max(1, left_recent // left_frequent))
            self.assertEqual(target(calls + [put(key)]), after)


class GotTillTold(unittest.TestCase):
    """Promise 5, by hand."""

    def test_got_till_told(self):
        calls = [begin(2), put(1, 11), get(1), put(2, 22), get(1), put(3, 33), get(1), get(2), get(3)]
        self.assertEqual(ask(calls), [[0], [0], [1, 11], [0], [1, 11], [0, 2, 22], [1, 11], [0], [1, 33]])
        self.assertEqual(last(calls + [put(1, 12)]), [1, 1, 11])

    def test_over_resizes(self):
        calls = [begin(2), put(1, 11), resize(5), get(1), put(2, 22), resize(1), get(1), get(2), resize(64), get(2)]
        self.assertEqual(ask(calls)[3:], [[1, 11], [0], [0, 2, 22], [1, 11], [0], [0], [0]])


class AskingChangesNothing(unittest.TestCase):
    """Promise 7: place, nth and sizes in any order, and all is as it was."""

    def test_on_many_cases(self):
        for limit in (1, 2, 5, 12):
            for seed in range(10):
                calls = all_nine(seed * 61 + limit, limit, 120)
                unasked = [call for call in calls if call[0] not in (4, 5, 6)]
                self.assertEqual(shown(calls), shown(unasked))
                told = [answer for call, answer in zip(calls, ask(calls)) if call[0] not in (4, 5, 6)]
                self.assertEqual(told, ask(unasked))
