"""Lays calls out as the program is handed them, and takes its answers apart."""

from mirrorpool.devices import answers

MOST = 2**64 - 1
FAIL, TAKEN, GOES, SICK, ROT, OFF = range(6)
IS_GOOD, IS_FILLED, IS_OUT = [0], [1], [2]
POWER_WENT = [-100]
NO_POOL = [-9]
WRONG = [-2]


def with_count(numbers):
    return [len(numbers), *numbers]


def call(code, numbers, lists):
    laid = [code, *with_count(numbers), len(lists)]
    for one in lists:
        laid += with_count(one)
    return laid


def devices(sizes, script=()):
    return call(14, [], [sizes, *script])


def begin(n, *mirrors):
    return call(0, [n], mirrors)


def places():
    return call(1, [], [])


def read(place, wanted):
    return call(2, [place, wanted], [])


def read_of(place, block):
    """The read whose pointer means this block at this place."""
    return read(place, block_sum(place, block))


def write(place, block):
    return call(3, [place], [block])


def flush():
    return call(4, [], [])


def slots(k):
    return call(5, [k], [])


def put_slot(k, block):
    return call(6, [k], [block])


def out(d):
    return call(7, [d], [])


def fill(d):
    return call(8, [d], [])


def good(d):
    return call(9, [d], [])


def state(d):
    return call(10, [d], [])


def sum_of(place, block):
    return call(11, [place], [block])


def peek(d, k):
    return call(12, [d, k], [])


def asks():
    return call(13, [], [])


def taken_apart(given):
    for n in given:
        if isinstance(n, bool) or not isinstance(n, int):
            raise AssertionError(f"not a whole number: {n!r}")
    found = []
    at = 0
    while at < len(given):
        found.append(given[at + 1:at + 1 + given[at]])
        if len(found[-1]) != given[at]:
            raise AssertionError(f"an answer is cut short: {given[at:]}")
        at += 1 + given[at]
    return found


def run(sizes, script, *calls):
    """What each call behind devices is answered."""
    found = taken_apart(answers(sum(calls, devices(sizes, script))))
    if len(found) != len(calls) + 1 or found[0] != []:
        raise AssertionError(f"not an answer for each call: {found}")
    return found[1:]


def ask_count(sizes, script, *calls):
    """How many asks the calls make."""
    return run(sizes, script, *calls, asks())[-1][0]


def crc(row):
    """The document's words, step by step."""
    c = 2**64 - 1
    for byte in row:
        c ^= byte
        for _ in range(8):
            odd = c % 2
            c //= 2
            if odd:
                c ^= 0xC96C5795D7870F42
    return c ^ (2**64 - 1)


def block_sum(place, block):
    return crc([place >> 8 * i & 255 for i in range(8)] + block + [0] * (1024 - len(block)))
