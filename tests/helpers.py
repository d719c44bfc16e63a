"""Calls by name, answers one by one, and what can be found out by asking alone."""

from tworooms.cache import answers

LARGEST = 4294967295
RECENT, FREQUENT, LEFT_RECENT, LEFT_FREQUENT, NOT_KNOWN = 1, 2, 3, 4, 0
ROWS = (RECENT, FREQUENT, LEFT_RECENT, LEFT_FREQUENT)

# Keys that no test puts but as a scan; they come one behind another from here on.
SCAN_FROM = 1000000


def begin(most):
    return (0, most)


def get(key):
    return (1, key)


def put(key, value=None):
    """Puts a value, by default one that can be told from the key: ten times the key."""
    return (2, key, key * 10 if value is None else value)


def drop(key):
    return (3, key)


def place(key):
    return (4, key)


def nth(row, i):
    return (5, row, i)


def sizes():
    return (6,)


def resize(most):
    return (7, most)


def flush():
    return (8,)


def puts(*keys):
    return [put(key) for key in keys]


def used(*keys):
    """Puts each key and gets it at once, so that it stands among the frequent ones."""
    return [call for key in keys for call in (put(key), get(key))]


def flat(calls):
    return [number for call in calls for number in call]


def split(told):
    """The answers of a list that answers() gave back, one by one; a wrong count is an error."""
    parts = []
    at = 0
    while at < len(told):
        end = at + 1 + told[at]
        if told[at] < 1 or end > len(told):
            raise AssertionError(f"no answer has the count {told[at]} at {at}")
        parts.append(told[at + 1:end])
        at = end
    return parts


def ask(calls):
    """The answers of the calls, one list for each."""
    parts = split(answers(flat(calls)))
    if len(parts) != len(calls):
        raise AssertionError(f"{len(calls)} calls had {len(parts)} answers")
    return parts


def last(calls):
    return ask(calls)[-1]


def places(calls, keys):
    """Where each of the keys stands after the calls."""
    told = ask(list(calls) + [place(key) for key in keys])
    return {key: answer[0] for key, answer in zip(keys, told[len(calls):])}


def in_place(calls, keys, wanted):
    """Which of the keys stand in one place after the calls."""
    return [key for key, where in places(calls, keys).items() if where == wanted]


def target(calls):
    """The target after the calls, as sizes tells it."""
    return last(list(calls) + [sizes()])[5]


def row_keys(calls):
    """The four rows after the calls, as sizes and nth tell them, each with its first key ahead."""
    calls = list(calls)
    lengths = last(calls + [sizes()])[1:5]
    rows = []
    for row, length in zip(ROWS, lengths):
        told = ask(calls + [nth(row, i) for i in range(length + 1)])[len(calls):]
        if [answer[0] for answer in told] != [1] * length + [0]:
            raise AssertionError(f"nth of row {row} answers {told}, sizes {lengths}")
        rows.append([answer[1] for answer in told[:length]])
    return rows


def shown(calls):
    """All that can be asked after the calls: most, the four rows, the target, and the values that are held."""
    calls = list(calls)
    most, target_told = last(calls + [sizes()])[::5]
    rows = row_keys(calls)
    told = ask(calls + [get(key) for key in rows[0] + rows[1]])[len(calls):]
    return most, rows, target_told, told


def put_keys(calls):
    return sorted({call[1] for call in calls if call[0] == 2})


def scan(count):
    return puts(*range(SCAN_FROM, SCAN_FROM + count))


def target_after(calls, most):
    """The target after the calls, found by calls alone; most - 1 stands for most too.

    Most entries must be held. All of them are made frequent ones, which leaves the target as it
    is; then a scan lets the recent ones grow just till they are one more than the target.
    """
    keys = put_keys(calls)
    recent = in_place(calls, keys, RECENT)
    frequent = in_place(calls, keys, FREQUENT)
    if len(recent) + len(frequent) != most:
        raise AssertionError("the target shows only while most entries are held")
    count = 2 * most + 2
    probe = list(calls) + [get(key) for key in recent] + scan(count)
    return len(in_place(probe, range(SCAN_FROM, SCAN_FROM + count), RECENT)) - 1
