"""The interface: a line of calls on one pool, answered call by call."""

from mirrorpool.blocks import is_block, whole_block
from mirrorpool.layout import BEGIN, FLUSH, PLACES, PUT_SLOT, READ, SLOTS_CALL, WRITE, Reader
from mirrorpool.line import Line, PowerGone
from mirrorpool.pool import Pool, can_be_pool
from mirrorpool.sums import Sums

DONE = 0
WRONG = -2
NO_POOL = -9
POWER_WENT = -100


class UnknownCall(ValueError):
    pass


def read_answer(pool, place, wanted):
    if not pool.has_place(place):
        return [WRONG]
    return pool.read(place, wanted)


def write_answer(pool, place, told):
    if not pool.has_place(place) or not is_block(told):
        return [WRONG]
    return [pool.write(place, whole_block(told))]


def slots_answer(pool, k):
    if not pool.has_slot(k):
        return [WRONG]
    return pool.slots(k)


def put_slot_answer(pool, k, told):
    if not pool.has_slot(k) or not is_block(told):
        return [WRONG]
    return [pool.put_slot(k, whole_block(told))]


def pool_answer(pool, call):
    if call.code == PLACES:
        return [pool.places()]
    if call.code == READ:
        return read_answer(pool, call.numbers[0], call.numbers[1])
    if call.code == WRITE:
        return write_answer(pool, call.numbers[0], call.lists[0])
    if call.code == FLUSH:
        return [pool.flush()]
    if call.code == SLOTS_CALL:
        return slots_answer(pool, call.numbers[0])
    return put_slot_answer(pool, call.numbers[0], call.lists[0])


class Session:
    def __init__(self, sizes, script):
        self.line = Line(sizes, script)
        self.sums = Sums()
        self.pool = None

    def begin(self, n, mirrors):
        if not can_be_pool(n, mirrors):
            return [WRONG]
        self.pool = Pool(self.line, self.sums, n, mirrors)
        return [DONE]

    def answer(self, call):
        if call.code == BEGIN:
            return self.begin(call.numbers[0], call.lists)
        if call.code not in (PLACES, READ, WRITE, FLUSH, SLOTS_CALL, PUT_SLOT):
            raise UnknownCall()
        if self.pool is None:
            return [NO_POOL]
        try:
            return pool_answer(self.pool, call)
        except PowerGone:
            self.pool = None
            return [POWER_WENT]


def answers(calls):
    reader = Reader(calls)
    first = reader.take_call()
    session = Session(first.lists[0], first.lists[1:])
    # The first call, devices, is answered by no numbers.
    given = [0]
    while reader.has_more():
        answer = session.answer(reader.take_call())
        given.append(len(answer))
        given.extend(answer)
    return given
