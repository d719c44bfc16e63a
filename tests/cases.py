"""Lists of calls that look like chance but are the same each time."""

from tests.helpers import begin, drop, flush, get, nth, place, put, resize, sizes

WRONG_MOST = (0, 65, 4294967295)
WRONG_ROW = (0, 5, 4294967295)


class Dice:
    """Numbers that follow from a seed alone, under each Python alike."""

    def __init__(self, seed):
        self.state = seed * 2654435761 % 4294967296 + 1

    def below(self, limit):
        self.state = (self.state * 6364136223846793005 + 1442695040888963407) % 18446744073709551616
        return (self.state >> 33) % limit


def one_call(dice, keys, value):
    """A put more often than a get, a get more often than a drop or a place."""
    kind = dice.below(16)
    # Now and then only a few of the keys: these are used again and become frequent ones.
    key = dice.below(keys if dice.below(3) else keys // 3 + 1)
    if kind < 9:
        return put(key, value)
    if kind < 14:
        return get(key)
    return drop(key) if kind == 14 else place(key)


def mixed(seed, most, keys, count):
    """A begin and calls behind it on keys below a number; each put has a value of its own."""
    dice = Dice(seed)
    return [begin(most)] + [one_call(dice, keys, 1000 + at) for at in range(count - 1)]


def mixed_with_begins(seed, count):
    """Calls on a new object, with a begin now and then, a refused one among them."""
    dice = Dice(seed)
    calls = []
    keys = 40
    for at in range(count):
        if dice.below(60) == 0:
            most = 1 + dice.below(20)
            keys = 2 * most + 3
            calls.append(begin(most))
        elif dice.below(60) == 0:
            calls.append(begin(WRONG_MOST[dice.below(3)]))
        else:
            calls.append(one_call(dice, keys, 1000 + at))
    return calls


def change(dice, limit):
    """A call that changes most or empties the cache: mostly a resize, to a number up to a limit or to a wrong one."""
    kind = dice.below(12)
    if kind < 8:
        return resize(1 + dice.below(limit))
    if kind < 10:
        return (resize if kind == 8 else begin)(WRONG_MOST[dice.below(3)])
    return begin(1 + dice.below(limit)) if kind == 10 else flush()


def question(dice, limit):
    """A sizes, or an nth of a row that is there or, now and then, of one that isn't."""
    kind = dice.below(8)
    if kind < 3:
        return sizes()
    row = WRONG_ROW[dice.below(3)] if kind == 3 else 1 + dice.below(4)
    return nth(row, 4294967295 if dice.below(12) == 0 else dice.below(limit))


def all_nine(seed, limit, count):
    """Calls of all nine numbers on a new object; most isn't set past a limit; each put has a value of its own."""
    dice = Dice(seed)
    calls = [begin(limit)] if dice.below(4) else []
    while len(calls) < count:
        kind = dice.below(24)
        if kind == 0:
            calls.append(change(dice, limit))
        elif kind < 5:
            calls.append(question(dice, limit))
        else:
            calls.append(one_call(dice, 2 * limit + 3, 1000 + len(calls)))
    return calls
