"""The interface: a line of calls on one pool, answered call by call."""

from mirrorpool.blocks import is_block, whole_block
from mirrorpool.layout import ASKS, BEGIN, FILL, FLUSH, GOOD_CALL, OUT_CALL, PEEK, PLACES
from mirrorpool.layout import PUT_SLOT, READ, SLOTS_CALL, STATE, SUM_OF, WRITE, Reader
from mirrorpool.line import Line, PowerGone
from mirrorpool.pool import BEING_FILLED, GOOD, OUT, Pool, can_be_pool
from mirrorpool.sums import Sums

DONE = 0
WRONG = -2
NO_POOL = -9
POWER_WENT = -100


def read_answer(pool, place, wanted):
    if not pool.has_place(place):
        return [WRONG]
    return pool.read(place, wanted)


def write_answer(pool, place, told):
    if not pool.has_place(place) or not is_block(told):
        return [WRONG]
    return [pool.write(place, whole_block(told))]


def slots_answer(pool, k):
    if not pool.has_slot(k):
        return [WRONG]
    return pool.slots(k)


def put_slot_answer(pool, k, told):
    if not pool.has_slot(k) or not is_block(told):
        return [WRONG]
    return [pool.put_slot(k, whole_block(told))]


def state_answer(pool, d):
    if not pool.has_device(d):
        return [WRONG]
    return [pool.state_of(d)]


def state_given(code):
    states = {OUT_CALL: OUT, FILL: BEING_FILLED, GOOD_CALL: GOOD}
    return states[code]


def give_state_answer(pool, d, state):
    if not pool.has_device(d):
        return [WRONG]
    pool.give_state(d, state)
    return [DONE]


def pool_answer(pool, call):
    if call.code == PLACES:
        return [pool.places()]
    if call.code == READ:
        return read_answer(pool, call.numbers[0], call.numbers[1])
    if call.code == WRITE:
        return write_answer(pool, call.numbers[0], call.lists[0])
    if call.code == FLUSH:
        return [pool.flush()]
    if call.code == SLOTS_CALL:
        return slots_answer(pool, call.numbers[0])
    if call.code == PUT_SLOT:
        return put_slot_answer(pool, call.numbers[0], call.lists[0])
    if call.code == STATE:
        return state_answer(pool, call.numbers[0])
    return give_state_answer(pool, call.numbers[0], state_given(call.code))


class Session:
    def __init__(self, sizes, script):
        self.line = Line(sizes, script)
        self.sums = Sums()
        self.pool = None

    def begin(self, n, mirrors):
        if not can_be_pool(n, mirrors):
            return [WRONG]
        self.pool = Pool(self.line, self.sums, n, mirrors)
        return [DONE]

    def sum_of(self, place, told):
        if not is_block(told):
            return [WRONG]
        return [self.sums.of_block(place, whole_block(told))]

    def answer_by_pool(self, call):
        if self.pool is None:
            return [NO_POOL]
        try:
            return pool_answer(self.pool, call)
        except PowerGone:
            self.pool = None
            return [POWER_WENT]

    def answer(self, call):
        if call.code == BEGIN:
            return self.begin(call.numbers[0], call.lists)
        if call.code == SUM_OF:
            return self.sum_of(call.numbers[0], call.lists[0])
        if call.code == PEEK:
            return self.line.peek(call.numbers[0], call.numbers[1])
        if call.code == ASKS:
            return [self.line.ask_count]
        return self.answer_by_pool(call)


def answers(calls):
    reader = Reader(calls)
    first = reader.take_call()
    session = Session(first.lists[0], first.lists[1:])
    # The first call, devices, is answered by no numbers.
    given = [0]
    while reader.has_more():
        answer = session.answer(reader.take_call())
        given.append(len(answer))
        given.extend(answer)
    return given
