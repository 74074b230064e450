"""A pool: mirrors of devices, their states, and the places and slots on them."""

from mirrorpool.blocks import told_bytes

SLOTS = 8
DEVICES = 8
FEWEST_BLOCKS = 16
MOST_BLOCKS = 65536
WIDEST_MIRROR = 3
GOOD = 0
BEING_FILLED = 1
OUT = 2


def can_be_pool(n, mirrors):
    if n < FEWEST_BLOCKS or n > MOST_BLOCKS or len(mirrors) == 0:
        return False
    standing = {}
    for mirror in mirrors:
        if len(mirror) == 0 or len(mirror) > WIDEST_MIRROR:
            return False
        for d in mirror:
            if d >= DEVICES or d in standing:
                return False
            standing[d] = True
    return True


class Pool:
    def __init__(self, line, sums, n, mirrors):
        self.line = line
        self.sums = sums
        self.n = n
        self.mirrors = mirrors
        # The keys stand in the order in which the devices are gone through.
        self.states = {}
        for mirror in mirrors:
            for d in mirror:
                self.states[d] = GOOD

    def places(self):
        return len(self.mirrors) * (self.n - SLOTS)

    def has_place(self, place):
        return place < self.places()

    def has_slot(self, k):
        return k < SLOTS

    def has_device(self, d):
        return d in self.states

    def state_of(self, d):
        return self.states[d]

    def give_state(self, d, state):
        self.states[d] = state

    def mirror_at(self, place):
        return self.mirrors[place % len(self.mirrors)]

    def block_at(self, place):
        return SLOTS + place // len(self.mirrors)

    def good_ones(self, row):
        return [d for d in row if self.states[d] == GOOD]

    def those_not_out(self, row):
        return [d for d in row if self.states[d] != OUT]

    def put(self, d, k, block):
        if self.line.write(d, k, block) or self.line.write(d, k, block):
            return True
        self.give_state(d, OUT)
        return False

    def put_all(self, row, k, block):
        given = 0
        for d in self.those_not_out(row):
            if self.put(d, k, block) and self.states[d] == GOOD:
                given = 1
        return given

    def read(self, place, wanted):
        k = self.block_at(place)
        asked = []
        for d in self.good_ones(self.mirror_at(place)):
            block = self.line.read(d, k)
            if block is not None and self.sums.of_block(place, block) == wanted:
                self.put_all(asked, k, block)
                return [1] + told_bytes(block)
            asked.append(d)
        return [0]

    def write(self, place, block):
        return self.put_all(self.mirror_at(place), self.block_at(place), block)

    def flush(self):
        for d in self.those_not_out(list(self.states)):
            if not self.line.flush(d) and not self.line.flush(d):
                self.give_state(d, OUT)
        for mirror in self.mirrors:
            if len(self.good_ones(mirror)) == 0:
                return 0
        return 1

    def slots(self, k):
        count = 0
        told = []
        for d in self.good_ones(list(self.states)):
            block = self.line.read(d, k)
            if block is not None:
                count += 1
                shown = told_bytes(block)
                told.extend([d, len(shown)])
                told.extend(shown)
        return [count] + told

    def put_slot(self, k, block):
        return self.put_all(list(self.states), k, block)
