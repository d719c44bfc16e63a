"""Lists of calls that look like chance but are the same each time."""

from tests.helpers import begin, drop, get, place, put

WRONG_MOST = (0, 65, 4294967295)


class Dice:
    """Numbers that follow from a seed alone, under each Python alike."""

    def __init__(self, seed):
        self.state = seed * 2654435761 % 4294967296 + 1

    def below(self, limit):
        self.state = (self.state * 6364136223846793005 + 1442695040888963407) % 18446744073709551616
        return (self.state >> 33) % limit


def one_call(dice, keys, value):
    """A put more often than a get, a get more often than a drop or a place."""
    kind = dice.below(16)
    # Now and then only a few of the keys: these are used again and become frequent ones.
    key = dice.below(keys if dice.below(3) else keys // 3 + 1)
    if kind < 9:
        return put(key, value)
    if kind < 14:
        return get(key)
    return drop(key) if kind == 14 else place(key)


def mixed(seed, most, keys, count):
    """A begin and calls behind it on keys below a number; each put has a value of its own."""
    dice = Dice(seed)
    return [begin(most)] + [one_call(dice, keys, 1000 + at) for at in range(count - 1)]


def mixed_with_begins(seed, count):
    """Calls on a new object, with a begin now and then, a refused one among them."""
    dice = Dice(seed)
    calls = []
    keys = 40
    for at in range(count):
        if dice.below(60) == 0:
            most = 1 + dice.below(20)
            keys = 2 * most + 3
            calls.append(begin(most))
        elif dice.below(60) == 0:
            calls.append(begin(WRONG_MOST[dice.below(3)]))
        else:
            calls.append(one_call(dice, keys, 1000 + at))
    return calls
