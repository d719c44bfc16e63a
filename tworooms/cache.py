"""An adaptive replacement cache that tells what leaves it, and the calls on it as whole numbers."""

MOST_AT_FIRST = 16
LARGEST_MOST = 64

# The places of a key, numbered as the call place answers them.
NOT_KNOWN = 0
RECENT = 1
FREQUENT = 2
LEFT_RECENT = 3
LEFT_FREQUENT = 4

# The numbers of the calls; what is none of these is flush.
BEGIN = 0
GET = 1
PUT = 2
DROP = 3
PLACE = 4
NTH = 5
SIZES = 6
RESIZE = 7

# How many numbers each call takes up, its own number among them, by that number.
CALL_LENGTHS = (2, 2, 3, 2, 2, 3, 1, 2, 1)


def may_be_most(number):
    """Tells whether so many entries may be allowed to be held."""
    return number >= 1 and number <= LARGEST_MOST


class Cache:
    """Four rows of keys, each with its first at index 0, and the values of the held keys."""

    def __init__(self):
        self.most = MOST_AT_FIRST
        self.forget_all()

    def forget_all(self):
        """Leaves nothing held or known, and the target 0."""
        self.target = 0
        self.rows = {RECENT: [], FREQUENT: [], LEFT_RECENT: [], LEFT_FREQUENT: []}
        self.held = {}

    def begin(self, most):
        """Starts anew with another most; what was held is not told."""
        if not may_be_most(most):
            return [-1]
        self.most = most
        self.forget_all()
        return [0]

    def get(self, key):
        """Answers 1 and the value of a held key, which is used again; else 0."""
        if key not in self.held:
            return [0]
        self.move_to_frequent(key)
        return [1, self.held[key]]

    def put(self, key, value):
        """Answers 1 if the key was held, else 0, and behind it what left."""
        if key in self.held:
            answer = [1, key, self.held[key]]
            self.move_to_frequent(key)
        else:
            answer = [0] + self.let_in(key)
        self.held[key] = value
        return answer

    def drop(self, key):
        """Makes the key unknown; answers 2 and what left, 1 if the key alone was kept, or 0."""
        if self.place(key) == NOT_KNOWN:
            return [0]
        self.take_out(key)
        if key in self.held:
            return [2, key, self.held.pop(key)]
        return [1]

    def place(self, key):
        """Tells which row the key stands in, or that it isn't known."""
        for place in (RECENT, FREQUENT, LEFT_RECENT, LEFT_FREQUENT):
            if key in self.rows[place]:
                return place
        return NOT_KNOWN

    def nth(self, row, i):
        """Answers 1 and the key at index i of a row, 0 behind its last, or -1 if there's no such row."""
        if row not in self.rows:
            return [-1]
        keys = self.rows[row]
        if i >= len(keys):
            return [0]
        return [1, keys[i]]

    def sizes(self):
        """Answers most, the lengths of the four rows and the target."""
        return [self.most] + self.row_lengths() + [self.target]

    def resize(self, most):
        """Takes another most and lets go and forgets what is too much for it; answers 0 and what left."""
        if not may_be_most(most):
            return [-1]
        self.most = most
        self.target = min(self.target, most)
        answer = [0]
        while len(self.held) > most:
            # Room is made for no key here, so for none that had left the frequent ones.
            answer.extend(self.one_goes(NOT_KNOWN))
        self.forget_surplus()
        return answer

    def flush(self):
        """Empties the cache; answers how many entries were held, and these, as what left."""
        answer = [len(self.held)]
        for place in (RECENT, FREQUENT):
            for key in reversed(self.rows[place]):
                answer.extend([key, self.held[key]])
        self.forget_all()
        return answer

    def take_out(self, key):
        """Takes a known key out of its row."""
        self.rows[self.place(key)].remove(key)

    def move_to_frequent(self, key):
        """Puts a known key, from wherever it stood, first among the frequent ones."""
        self.take_out(key)
        self.rows[FREQUENT].insert(0, key)

    def let_in(self, key):
        """Gives a key that isn't held its place among the entries; gives back what left."""
        place = self.place(key)
        if place == NOT_KNOWN:
            left = self.make_room_for_unknown()
            self.rows[RECENT].insert(0, key)
            return left
        if place == LEFT_RECENT:
            self.grow_target()
        else:
            self.shrink_target()
        left = self.make_room(place)
        self.move_to_frequent(key)
        return left

    def grow_target(self):
        """Gives the recent ones more room, since a key that had left them is back."""
        step = max(1, len(self.rows[LEFT_FREQUENT]) // len(self.rows[LEFT_RECENT]))
        self.target = min(self.most, self.target + step)

    def shrink_target(self):
        """Gives the frequent ones more room, since a key that had left them is back."""
        step = max(1, len(self.rows[LEFT_RECENT]) // len(self.rows[LEFT_FREQUENT]))
        self.target = max(0, self.target - step)

    def make_room_for_unknown(self):
        """Forgets what must be forgotten and makes room for a new key; gives back what left."""
        left_recent = self.rows[LEFT_RECENT]
        if len(self.rows[RECENT]) + len(left_recent) == self.most:
            if len(left_recent) == 0:
                return self.let_go(RECENT)
            left_recent.pop()
        elif self.count_known() == 2 * self.most:
            self.rows[LEFT_FREQUENT].pop()
        return self.make_room(NOT_KNOWN)

    def forget_surplus(self):
        """Forgets the last keys that left, first the recent ones', till no more is known than may be."""
        left_recent = self.rows[LEFT_RECENT]
        while len(self.rows[RECENT]) + len(left_recent) > self.most:
            left_recent.pop()
        while self.count_known() > 2 * self.most:
            self.rows[LEFT_FREQUENT].pop()

    def row_lengths(self):
        """Counts the keys of each row, in the order in which the rows are numbered."""
        return [len(self.rows[place]) for place in (RECENT, FREQUENT, LEFT_RECENT, LEFT_FREQUENT)]

    def count_known(self):
        """Counts the keys of all four rows."""
        return sum(self.row_lengths())

    def make_room(self, place):
        """Lets one entry go if most are held, for a key that comes from the place told."""
        if len(self.held) < self.most:
            return []
        return self.one_goes(place)

    def one_goes(self, place):
        """Lets the last recent or the last frequent entry go and keeps its key; gives back what left."""
        count = len(self.rows[RECENT])
        too_many = count > self.target or (count == self.target and place == LEFT_FREQUENT)
        if count > 0 and too_many:
            return self.let_go_and_keep_key(RECENT, LEFT_RECENT)
        return self.let_go_and_keep_key(FREQUENT, LEFT_FREQUENT)

    def let_go_and_keep_key(self, place, place_after):
        """Lets the last entry of a row go and puts its key first in another; gives back what left."""
        left = self.let_go(place)
        self.rows[place_after].insert(0, left[0])
        return left

    def let_go(self, place):
        """Lets the last entry of a row go; gives back its key and its value."""
        key = self.rows[place].pop()
        return [key, self.held.pop(key)]


def answer_call(cache, call):
    """Answers one call: the list of its number and its arguments."""
    number = call[0]
    if number == BEGIN:
        return cache.begin(call[1])
    if number == GET:
        return cache.get(call[1])
    if number == PUT:
        return cache.put(call[1], call[2])
    if number == DROP:
        return cache.drop(call[1])
    if number == PLACE:
        return [cache.place(call[1])]
    if number == NTH:
        return cache.nth(call[1], call[2])
    if number == SIZES:
        return cache.sizes()
    if number == RESIZE:
        return cache.resize(call[1])
    return cache.flush()


def answers(calls):
    """Answers the calls on a new cache, one behind another, each answer with its length ahead."""
    cache = Cache()
    told = []
    start = 0
    while start < len(calls):
        end = start + CALL_LENGTHS[calls[start]]
        answer = answer_call(cache, calls[start:end])
        told.append(len(answer))
        told.extend(answer)
        start = end
    return told
