"""The document's words once more, in another form: each key has a place and the time it came there.

No row is kept; a row is what has its place, sorted by time.
"""

RECENT, FREQUENT, LEFT_RECENT, LEFT_FREQUENT, NOT_KNOWN = 1, 2, 3, 4, 0


class Reference:
    def __init__(self):
        self.start(16)

    def start(self, most):
        self.most = most
        self.target = 0
        self.time = 0
        self.where = {}
        self.since = {}
        self.value = {}

    def row(self, number):
        """The keys of a row, the first ahead."""
        keys = [key for key, where in self.where.items() if where == number]
        return sorted(keys, key=lambda key: -self.since[key])

    def size(self, *numbers):
        return sum(1 for where in self.where.values() if where in numbers)

    def come(self, key, number):
        self.time += 1
        self.where[key] = number
        self.since[key] = self.time

    def forget(self, key):
        del self.where[key]
        del self.since[key]

    def forget_last(self, number):
        self.forget(self.row(number)[-1])

    def one_goes(self, came_from):
        recent = self.size(RECENT)
        limit = self.target if came_from == LEFT_FREQUENT else self.target + 1
        if recent >= max(1, limit):
            key, number = self.row(RECENT)[-1], LEFT_RECENT
        else:
            key, number = self.row(FREQUENT)[-1], LEFT_FREQUENT
        self.come(key, number)
        return [key, self.value.pop(key)]

    def room(self, came_from):
        return self.one_goes(came_from) if self.size(RECENT, FREQUENT) == self.most else []

    def new(self):
        if self.size(RECENT, LEFT_RECENT) == self.most:
            if self.size(LEFT_RECENT) == 0:
                key = self.row(RECENT)[-1]
                self.forget(key)
                return [key, self.value.pop(key)]
            self.forget_last(LEFT_RECENT)
        elif len(self.where) == 2 * self.most:
            self.forget_last(LEFT_FREQUENT)
        return self.room(NOT_KNOWN)

    def put(self, key, value):
        where = self.where.get(key, NOT_KNOWN)
        gone_recent, gone_frequent = self.size(LEFT_RECENT), self.size(LEFT_FREQUENT)
        front = FREQUENT
        if where in (RECENT, FREQUENT):
            answer = [1, key, self.value[key]]
        elif where == LEFT_RECENT:
            self.target = min(self.most, self.target + max(1, gone_frequent // gone_recent))
            answer = [0] + self.room(where)
        elif where == LEFT_FREQUENT:
            self.target = max(0, self.target - max(1, gone_recent // gone_frequent))
            answer = [0] + self.room(where)
        else:
            answer = [0] + self.new()
            front = RECENT
        self.come(key, front)
        self.value[key] = value
        return answer

    def get(self, key):
        if key not in self.value:
            return [0]
        self.come(key, FREQUENT)
        return [1, self.value[key]]

    def drop(self, key):
        if key not in self.where:
            return [0]
        self.forget(key)
        return [2, key, self.value.pop(key)] if key in self.value else [1]

    def begin(self, most):
        if not 1 <= most <= 64:
            return [-1]
        self.start(most)
        return [0]

    def place(self, key):
        return [self.where.get(key, NOT_KNOWN)]

    def nth(self, row, i):
        if row not in (RECENT, FREQUENT, LEFT_RECENT, LEFT_FREQUENT):
            return [-1]
        return ([[1, key] for key in self.row(row)][i:] + [[0]])[0]

    def sizes(self):
        lengths = [self.size(number) for number in (RECENT, FREQUENT, LEFT_RECENT, LEFT_FREQUENT)]
        return [self.most, *lengths, self.target]

    def resize(self, most):
        if not 1 <= most <= 64:
            return [-1]
        self.most = most
        if self.target > most:
            self.target = most
        answer = [0]
        for turn in range(self.size(RECENT, FREQUENT) - most):
            answer += self.one_goes(None)
        self.keep(LEFT_RECENT, most - self.size(RECENT))
        self.keep(LEFT_FREQUENT, 2 * most - self.size(RECENT, FREQUENT, LEFT_RECENT))
        return answer

    def keep(self, number, count):
        """Of a row the first keys, so many, and no others."""
        for key in self.row(number)[count:]:
            self.forget(key)

    def flush(self):
        keys = (self.row(FREQUENT) + self.row(RECENT))[::-1]
        answer = [len(keys)] + [number for key in keys for number in (key, self.value[key])]
        self.start(self.most)
        return answer

    def call(self, call):
        named = (self.begin, self.get, self.put, self.drop, self.place, self.nth, self.sizes, self.resize, self.flush)
        return named[call[0]](*call[1:])

    def state(self):
        """All that the answers of later calls depend on, but for the values."""
        rows = tuple(tuple(self.row(number)) for number in (RECENT, FREQUENT, LEFT_RECENT, LEFT_FREQUENT))
        return self.most, self.target, rows
