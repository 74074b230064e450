"""Promises 1 to 7, each by what its calls answer and by which devices they ask, where none was put out by a call."""

import unittest

from lines import FAIL, GOES, MOST, NO_POOL, OFF, POWER_WENT, ROT, SICK, TAKEN, WRONG
from lines import ask_count, asks, begin, block_sum, crc, fill, flush, good, out, peek, places, put_slot
from lines import read, read_of, run, slots, state, sum_of, write

A = [1, 2, 3]
B = [9, 0, 8]


class Begin(unittest.TestCase):
    def begun(self, n, *mirrors):
        """Whether it's a pool; if it isn't, the calls behind it find none."""
        found = run([16] * 8, [], begin(n, *mirrors), places())
        if found[0] == [0]:
            self.assertEqual(found[1], [len(mirrors) * (n - 8)])
            return True
        self.assertEqual(found, [WRONG, NO_POOL])
        return False

    def test_how_many_blocks(self):
        for n in (16, 17, 4096, 65535, 65536):
            self.assertTrue(self.begun(n, [0]))
        for n in (0, 7, 8, 15, 65537, MOST):
            self.assertFalse(self.begun(n, [0]))

    def test_how_many_mirrors(self):
        self.assertFalse(self.begun(16))
        self.assertTrue(self.begun(16, *[[d] for d in range(8)]))
        self.assertFalse(self.begun(16, *[[d] for d in range(9)]))
        self.assertFalse(self.begun(16, *[[]] * 100))

    def test_how_many_devices_a_mirror_has(self):
        self.assertTrue(self.begun(16, [0], [1, 2], [3, 4, 5]))
        self.assertFalse(self.begun(16, []))
        self.assertFalse(self.begun(16, [0], []))
        self.assertFalse(self.begun(16, [0, 1, 2, 3]))
        self.assertFalse(self.begun(16, list(range(100))))

    def test_no_device_stands_twice(self):
        self.assertFalse(self.begun(16, [0, 0]))
        self.assertFalse(self.begun(16, [0, 1, 0]))
        self.assertFalse(self.begun(16, [0, 1], [2, 1]))
        self.assertFalse(self.begun(16, [0], [0]))

    def test_devices_are_0_to_7(self):
        self.assertTrue(self.begun(16, [7, 0]))
        self.assertFalse(self.begun(16, [8]))
        self.assertFalse(self.begun(16, [0], [1, MOST]))

    def test_devices_that_there_are_not_or_that_have_fewer_blocks(self):
        self.assertEqual(run([], [], begin(16, [0, 7]), places()), [[0], [8]])
        self.assertEqual(run([1], [], begin(65536, [0]), places()), [[0], [65528]])

    def test_a_refused_begin_leaves_the_pool_as_it_was(self):
        calls = [begin(16, [0], [1]), put_slot(0, A), begin(15, [0]), begin(20), begin(17, [0, 0]), places(), slots(0)]
        script = [[0, FAIL], [1, FAIL]]
        self.assertEqual(run([16] * 2, script, *calls)[2:], [WRONG, WRONG, WRONG, [16], [1, 1, 3] + A])

    def test_a_second_begin_makes_another_pool_all_good_over_the_same_devices(self):
        calls = [begin(16, [0], [1]), put_slot(0, A), slots(0), begin(20, [1, 0]), places(), slots(0)]
        script = [[0, TAKEN], [1, FAIL]]
        self.assertEqual(run([16] * 2, script, *calls)[2:],
                         [[1, 1, 3] + A, [0], [12], [2, 1, 3] + A + [0, 3] + A])

    def test_it_asks_nobody(self):
        self.assertEqual(ask_count([16], [], begin(16, [0]), begin(9, [0]), begin(16, [0])), 0)


class BeforeBegin(unittest.TestCase):
    calls = [places(), read(0, 0), write(0, A), flush(), slots(0), put_slot(0, A), out(0), fill(0), good(0), state(0)]
    wrong = [read(MOST, MOST), write(MOST, A), write(0, [1] * 2000), slots(8), put_slot(MOST, A),
             put_slot(0, [1] * 1025), out(1), fill(8), good(MOST), state(MOST)]
    free = [sum_of(0, A), sum_of(0, [1] * 1025), peek(0, 0), peek(MOST, 0), asks()]
    told = [[block_sum(0, A)], WRONG, [0, 0, 0], [0, 0, 0], [0]]

    def test_all_answer_that_there_is_no_pool(self):
        for each in self.calls + self.wrong:
            self.assertEqual(run([16], [], each), [NO_POOL])
            self.assertEqual(run([16], [], begin(15, [0]), each), [WRONG, NO_POOL])

    def test_nobody_is_asked(self):
        self.assertEqual(ask_count([16], [], *self.calls, *self.wrong), 0)

    def test_sum_peek_and_asks_need_no_pool(self):
        self.assertEqual(run([16], [], *self.free), self.told)
        self.assertEqual(run([16], [], begin(15, [0]), *self.free)[1:], self.told)
        self.assertEqual(run([16], [[0, OFF, 0, 0]], begin(16, [0]), slots(0), *self.free)[2:],
                         self.told[:-1] + [[1]])

    def test_behind_the_power_going_it_is_so_too_until_begin(self):
        for each in self.calls + self.wrong:
            found = run([16], [[0, OFF, 0, 0]], begin(16, [0]), slots(0), each, begin(3, [0]), each, begin(16, [0]))
            self.assertEqual(found[1:], [POWER_WENT, NO_POOL, WRONG, NO_POOL, [0]])


class Places(unittest.TestCase):
    def test_how_many(self):
        for n, mirrors, count in ((16, [[0]], 8), (16, [[0, 1, 2]], 8), (20, [[0], [1, 2], [3]], 36),
                                  (65536, [[0]], 65528), (65536, [[d] for d in range(8)], 8 * 65528)):
            self.assertEqual(run([16], [], begin(n, *mirrors), places())[1], [count])

    def test_a_device_out_changes_nothing(self):
        self.assertEqual(run([], [], begin(16, [0]), flush(), places()), [[0], [0], [8]])

    def test_it_asks_nobody(self):
        self.assertEqual(ask_count([16], [], begin(16, [0]), places()), 0)


class Where(unittest.TestCase):
    """In which mirror and which block a place lies."""

    def test_each_place_holds_a_block_of_its_own(self):
        mirrors = [[2], [0, 3], [1]]
        writes = [write(p, [p + 1]) for p in range(24)]
        reads = [read_of(p, [p + 1]) for p in range(24)]
        found = run([16] * 4, [], begin(16, *mirrors), *writes, *reads)
        self.assertEqual(found[1:25], [[1]] * 24)
        self.assertEqual(found[25:], [[1, p + 1] for p in range(24)])

    def test_the_mirror_and_the_block(self):
        # By a pool of the mirror alone, in which place b - 8 lies in block b.
        for place, d, block in ((0, 2, 8), (1, 0, 8), (2, 1, 8), (3, 2, 9), (13, 0, 12), (23, 1, 15)):
            found = run([16] * 3, [], begin(16, [2], [0], [1]), write(place, A), begin(16, [d]),
                        read_of(block - 8, A))
            self.assertEqual(found[-1], [1] + A)

    def test_slots_lie_in_blocks_0_to_7_and_places_behind_them(self):
        puts = [put_slot(k, [k + 1]) for k in range(8)]
        writes = [write(p, [p + 101]) for p in range(8)]
        shows = [slots(k) for k in range(8)]
        found = run([16], [], begin(16, [0]), *puts, *writes, *shows)
        self.assertEqual(found[-8:], [[1, 0, 1, k + 1] for k in range(8)])
        self.assertEqual(run([8], [], begin(16, [0]), put_slot(7, A), slots(7), write(0, A))[1:],
                         [[1], [1, 0, 3] + A, [0]])
        self.assertEqual(run([9], [], begin(16, [0]), write(0, A), read_of(0, A), write(1, A))[1:],
                         [[1], [1] + A, [0]])

    def test_the_last_place_of_the_widest_pool(self):
        found = run([4096], [], begin(4096, [0]), write(4087, A), read_of(4087, A), write(4088, A))
        self.assertEqual(found[1:], [[1], [1] + A, WRONG])


class Sum(unittest.TestCase):
    """The sum as a read takes it."""

    def test_the_words_by_a_known_number(self):
        self.assertEqual(crc([ord(sign) for sign in "123456789"]), 0x995DC9BBDF1939FA)

    def test_blocks_of_many_kinds(self):
        for block in ([], [1], [0, 0, 1], [255] * 1024, [n % 256 for n in range(1023)], [0] * 1023 + [128]):
            found = run([16], [], begin(16, [0]), write(5, block), read_of(5, block))
            self.assertEqual(found[2][:1], [1])
            self.assertEqual(found[2][1:] + [0] * (1025 - len(found[2])), block + [0] * (1024 - len(block)))

    def test_the_place_is_a_part_of_it(self):
        wanted = block_sum(3, A)
        found = run([16], [], begin(16, [0]), write(3, A), write(4, A), read(3, wanted), read(4, wanted))
        self.assertEqual(found[3:], [[1] + A, [0]])

    def test_a_place_of_more_bytes_than_one(self):
        # Places 258 and 513 have the same bytes, 1 and 2, in another order.
        for place in (255, 256, 258, 513, 65536, 524223):
            found = run([0] * 7 + [4096], [], begin(65536, *[[d] for d in range(7, -1, -1)]), read_of(place, []))
            reached = place % 8 == 0 and 8 + place // 8 < 4096
            self.assertEqual(found[1], [1] if reached else [0])
        found = run([4096], [], begin(4096, [0]), read_of(258, []), read(258, block_sum(513, [])))
        self.assertEqual(found[1:], [[1], [0]])

    def test_another_sum(self):
        its = block_sum(0, A)
        for wanted in (0, MOST, its ^ 1, its ^ 2**63):
            self.assertEqual(run([16], [], begin(16, [0]), write(0, A), read(0, wanted))[2], [0])


class Read(unittest.TestCase):
    def test_up_to_the_first_that_has_it(self):
        calls = [begin(16, [0, 1, 2]), write(0, A)]
        self.assertEqual(run([16] * 3, [], *calls, read_of(0, A))[-1], [1] + A)
        self.assertEqual(ask_count([16] * 3, [], *calls, read_of(0, A)), 3 + 1)

    def test_none_has_it(self):
        calls = [begin(16, [0, 1, 2]), write(0, A), read_of(0, B)]
        self.assertEqual(run([16] * 3, [], *calls)[-1], [0])
        self.assertEqual(ask_count([16] * 3, [], *calls), 3 + 3)

    def test_none_of_them_is_put_anything_or_goes_out_then(self):
        calls = [begin(16, [0, 1]), write(0, A), read_of(0, B), read_of(0, A)]
        script = [[2, FAIL], [3, FAIL]]
        self.assertEqual(run([16] * 2, script, *calls)[2:], [[0], [1] + A])
        self.assertEqual(ask_count([16] * 2, script, *calls), 2 + 2 + 1)

    def test_a_block_of_zeros(self):
        self.assertEqual(run([16], [], begin(16, [0]), read_of(7, []))[1], [1])

    def test_in_the_order_of_the_mirror(self):
        # The first that is asked goes; it's the one that slots don't show then.
        found = run([16] * 3, [[0, GOES]], begin(16, [1, 2, 0]), read_of(0, []), slots(0))
        self.assertEqual(found[2], [2, 2, 0, 0, 0])

    def test_those_of_its_mirror_alone(self):
        calls = [begin(16, [0], [1]), write(0, A), begin(16, [1], [0]), read_of(0, A)]
        self.assertEqual(run([16] * 2, [], *calls)[-1], [0])
        self.assertEqual(ask_count([16] * 2, [], *calls), 2)

    def test_one_that_fails_is_put_the_block(self):
        # Ask 2 fails and is mended by ask 4, and the lone device 0 has the block then.
        calls = [begin(16, [1]), write(0, A), begin(16, [0, 1]), read_of(0, A)]
        for script in ([[1, FAIL]], [[1, TAKEN]], [[1, SICK, 8]]):
            self.assertEqual(run([16] * 2, script, *calls, begin(16, [0]), read_of(0, A))[-3:],
                             [[1] + A, [0], [1] + A])
            self.assertEqual(ask_count([16] * 2, script, *calls), 1 + 2 + 1)

    def test_one_that_lies_is_put_the_block(self):
        calls = [begin(16, [0, 1]), write(0, A), read_of(0, A), begin(16, [0]), read_of(0, A)]
        self.assertEqual(run([16] * 2, [[2, ROT, 8, 1, 77]], *calls)[2:], [[1] + A, [0], [1] + A])

    def test_those_asked_before_it_in_order_and_no_other(self):
        # Devices 0 and 1 lack the block, 2 has it: three reads, and two puts.
        calls = [begin(16, [2]), write(0, A), begin(16, [0, 1, 2]), read_of(0, A)]
        self.assertEqual(ask_count([16] * 3, [], *calls), 1 + 3 + 2)
        for d in range(3):
            self.assertEqual(run([16] * 3, [], *calls, begin(16, [d]), read_of(0, A))[-1], [1] + A)
        # The first put is device 0's: it goes out there, and device 1 stays.
        found = run([16] * 3, [[4, FAIL], [5, FAIL]], *calls, slots(0))
        self.assertEqual(found[-2:], [[1] + A, [2, 1, 0, 2, 0]])
        found = run([16] * 3, [[5, FAIL], [6, FAIL]], *calls, slots(0))
        self.assertEqual(found[-2:], [[1] + A, [2, 0, 0, 2, 0]])

    def test_one_behind_it_is_left_as_it_is(self):
        calls = [begin(16, [0, 1]), write(0, A), begin(16, [1]), write(0, B), begin(16, [0, 1]), read_of(0, A)]
        self.assertEqual(run([16] * 2, [], *calls, begin(16, [1]), read_of(0, B))[-3:], [[1] + A, [0], [1] + B])

    def test_a_put_of_it_that_fails_twice_makes_a_device_out(self):
        calls = [begin(16, [1]), write(0, A), begin(16, [0, 1]), read_of(0, A)]
        script = [[3, FAIL], [4, FAIL]]
        self.assertEqual(run([16] * 2, script, *calls, slots(0), read_of(0, A))[-3:],
                         [[1] + A, [1, 1, 0], [1] + A])
        self.assertEqual(ask_count([16] * 2, script, *calls), 1 + 2 + 2)
        self.assertEqual(run([16] * 2, script[:1], *calls, slots(0))[-1], [2, 0, 0, 1, 0])

    def test_a_device_that_is_out_is_not_asked(self):
        calls = [begin(16, [0, 1]), write(0, A), read_of(0, A)]
        script = [[0, FAIL], [1, FAIL]]
        self.assertEqual(run([16] * 2, script, *calls)[1:], [[1], [1] + A])
        self.assertEqual(ask_count([16] * 2, script, *calls), 3 + 1)
        self.assertEqual(run([], [], begin(16, [0, 1]), flush(), read_of(0, []))[2], [0])
        self.assertEqual(ask_count([], [], begin(16, [0, 1]), flush(), read_of(0, [])), 4)

    def test_a_block_that_no_device_has(self):
        calls = [begin(65536, [0]), read_of(65527, []), slots(0)]
        self.assertEqual(run([16], [], *calls)[1:], [[0], [1, 0, 0]])

    def test_a_place_that_is_not_of_the_pool(self):
        wrong = [read(8, 0), read_of(8, []), read(MOST, MOST)]
        self.assertEqual(run([16], [], begin(16, [0]), *wrong)[1:], [WRONG] * 3)
        self.assertEqual(ask_count([16], [], begin(16, [0]), *wrong), 0)


class Write(unittest.TestCase):
    def test_all_of_its_mirror_have_it_then(self):
        for d in range(3):
            found = run([16] * 4, [], begin(16, [0, 1, 2], [3]), write(0, A), begin(16, [d]), read_of(0, A))
            self.assertEqual(found[1:], [[1], [0], [1] + A])
        self.assertEqual(ask_count([16] * 4, [], begin(16, [0, 1, 2], [3]), write(0, A)), 3)
        self.assertEqual(ask_count([16] * 4, [], begin(16, [0, 1, 2], [3]), write(1, A)), 1)

    def test_in_the_order_of_the_mirror(self):
        found = run([16] * 3, [[1, GOES]], begin(16, [1, 2, 0]), write(0, A), slots(0))
        self.assertEqual(found[1:], [[1], [2, 1, 0, 0, 0]])
        self.assertEqual(ask_count([16] * 3, [[1, GOES]], begin(16, [1, 2, 0]), write(0, A)), 4)

    def test_one_that_fails_is_asked_once_more(self):
        for word in (FAIL, TAKEN):
            found = run([16], [[0, word]], begin(16, [0]), write(0, A), read_of(0, A))
            self.assertEqual(found[1:], [[1], [1] + A])
            self.assertEqual(ask_count([16], [[0, word]], begin(16, [0]), write(0, A)), 2)

    def test_once_more_ahead_of_the_one_behind_it(self):
        # Asks 0 and 1 are both device 0's; were ask 1 device 1's, none would be out.
        found = run([16] * 2, [[0, FAIL], [1, FAIL]], begin(16, [0, 1]), write(0, A), slots(0))
        self.assertEqual(found[1:], [[1], [1, 1, 0]])

    def test_one_that_fails_twice_is_out(self):
        script = [[0, FAIL], [1, TAKEN]]
        calls = [begin(16, [0]), write(0, A), write(0, A), read_of(0, A), slots(0), flush(), put_slot(0, A)]
        self.assertEqual(run([16], script, *calls)[1:], [[0], [0], [0], [0], [0], [0]])
        self.assertEqual(ask_count([16], script, *calls), 2)

    def test_0_where_none_that_is_good_was_given_it(self):
        script = [[n, FAIL] for n in range(4)]
        self.assertEqual(run([16] * 2, script, begin(16, [0, 1]), write(0, A), write(0, A))[1:], [[0], [0]])
        self.assertEqual(run([16] * 2, script[:3], begin(16, [0, 1]), write(0, A), write(0, A))[1:], [[1], [1]])

    def test_1_whichever_of_them_was_given_it(self):
        for first in (0, 1, 2):
            script = [[first, FAIL], [first + 1, FAIL]]
            self.assertEqual(run([16] * 3, script, begin(16, [0, 1, 2]), write(0, A))[1], [1])

    def test_another_mirror_is_not_asked_for_it(self):
        script = [[0, FAIL], [1, FAIL]]
        self.assertEqual(run([16] * 2, script, begin(16, [0], [1]), write(0, A), write(1, A), write(0, B))[1:],
                         [[0], [1], [0]])

    def test_a_place_that_is_not_of_the_pool_or_no_block(self):
        wrong = [write(8, A), write(MOST, A), write(0, [1] * 1025), write(0, [0] * 2000), write(8, [1] * 1025)]
        self.assertEqual(run([16], [], begin(16, [0]), *wrong, read_of(0, []))[1:], [WRONG] * 5 + [[1]])
        self.assertEqual(ask_count([16], [], begin(16, [0]), *wrong), 0)


class Flush(unittest.TestCase):
    def test_all_that_is_on_its_way_is_sure(self):
        calls = [begin(16, [0], [1, 2]), write(0, A), write(1, B), put_slot(3, A), flush(), slots(0)]
        script = [[9, OFF, 0, 0]]
        found = run([16] * 3, script, *calls, begin(16, [0], [1, 2]), slots(3), read_of(0, A), read_of(1, B))
        self.assertEqual(found[4:], [[1], POWER_WENT, [0], [3, 0, 3] + A + [1, 3] + A + [2, 3] + A, [1] + A, [1] + B])

    def test_each_device_is_asked_once(self):
        self.assertEqual(ask_count([16] * 4, [], begin(16, [3, 0], [1]), flush()), 3)

    def test_in_the_order_of_the_mirrors(self):
        for n, left in enumerate([[2, 0, 0, 1, 0], [2, 3, 0, 1, 0], [2, 3, 0, 0, 0]]):
            found = run([16] * 4, [[n, GOES]], begin(16, [3, 0], [1]), flush(), slots(0))
            self.assertEqual(found[2], left)

    def test_one_that_fails_is_asked_once_more_ahead_of_the_next(self):
        for word in (FAIL, TAKEN):
            found = run([16] * 2, [[0, word]], begin(16, [0, 1]), flush(), slots(0))
            self.assertEqual(found[1:], [[1], [2, 0, 0, 1, 0]])
            self.assertEqual(ask_count([16] * 2, [[0, word]], begin(16, [0, 1]), flush()), 3)
            found = run([16] * 2, [[0, word], [1, word]], begin(16, [0, 1]), flush(), slots(0))
            self.assertEqual(found[1:], [[1], [1, 1, 0]])

    def test_one_that_is_out_is_not_asked(self):
        script = [[0, FAIL], [1, FAIL]]
        self.assertEqual(ask_count([16] * 2, script, begin(16, [0, 1]), flush(), flush()), 3 + 1)

    def test_0_where_a_mirror_has_no_good_device(self):
        script = [[0, FAIL], [1, FAIL]]
        self.assertEqual(run([16] * 2, script, begin(16, [0], [1]), flush(), flush())[1:], [[0], [0]])
        self.assertEqual(run([16] * 2, [[1, FAIL], [2, FAIL]], begin(16, [0], [1]), flush())[1:], [[0]])
        self.assertEqual(run([16] * 3, script, begin(16, [0, 2], [1]), flush())[1:], [[1]])

    def test_0_where_it_was_out_ahead_of_it(self):
        script = [[0, FAIL], [1, FAIL]]
        self.assertEqual(run([16] * 2, script, begin(16, [0], [1]), write(0, A), flush())[1:], [[0], [0]])


class Slots(unittest.TestCase):
    def test_each_good_device_in_order_with_its_own_block(self):
        calls = [begin(16, [1]), put_slot(2, A), begin(16, [0]), put_slot(2, [7] * 1024), begin(16, [2, 1], [0])]
        self.assertEqual(run([16] * 3, [], *calls, slots(2))[-1], [3, 2, 0, 1, 3] + A + [0, 1024] + [7] * 1024)
        self.assertEqual(ask_count([16] * 3, [], *calls, slots(2)), 2 + 3)

    def test_those_that_fail_are_left_out_and_stay_good(self):
        calls = [begin(16, [0, 1, 2]), slots(0), slots(0)]
        self.assertEqual(run([16] * 3, [[0, FAIL], [2, TAKEN]], *calls)[1:], [[1, 1, 0], [3, 0, 0, 1, 0, 2, 0]])
        self.assertEqual(ask_count([16] * 3, [[0, FAIL]], begin(16, [0, 1, 2]), slots(0)), 3)

    def test_those_that_are_out_are_not_asked(self):
        calls = [begin(16, [0, 1]), put_slot(0, A), slots(0)]
        script = [[0, FAIL], [1, FAIL]]
        self.assertEqual(run([16] * 2, script, *calls)[2], [1, 1, 3] + A)
        self.assertEqual(ask_count([16] * 2, script, *calls), 3 + 1)

    def test_none(self):
        self.assertEqual(run([], [], begin(16, [0, 1]), slots(0))[1], [0])

    def test_slots_are_0_to_7(self):
        wrong = [slots(8), slots(16), slots(MOST)]
        self.assertEqual(run([16], [], begin(16, [0]), slots(7), *wrong)[1:], [[1, 0, 0]] + [WRONG] * 3)
        self.assertEqual(ask_count([16], [], begin(16, [0]), *wrong), 0)


class PutSlot(unittest.TestCase):
    def test_every_device_of_every_mirror_has_it_then(self):
        calls = [begin(16, [2, 1], [0]), put_slot(7, A)]
        self.assertEqual(run([16] * 3, [], *calls, slots(7), slots(6))[1:],
                         [[1], [3, 2, 3] + A + [1, 3] + A + [0, 3] + A, [3, 2, 0, 1, 0, 0, 0]])
        self.assertEqual(ask_count([16] * 3, [], *calls), 3)

    def test_in_the_order_of_the_mirrors(self):
        for n, left in enumerate([[2, 1, 0, 0, 0], [2, 2, 0, 0, 0], [2, 2, 0, 1, 0]]):
            found = run([16] * 3, [[n, GOES]], begin(16, [2, 1], [0]), put_slot(7, A), slots(0))
            self.assertEqual(found[1:], [[1], left])

    def test_one_that_fails_is_asked_once_more_and_is_out_then(self):
        calls = [begin(16, [0, 1]), put_slot(0, A)]
        self.assertEqual(run([16] * 2, [[0, FAIL]], *calls, slots(0))[1:], [[1], [2, 0, 3] + A + [1, 3] + A])
        self.assertEqual(ask_count([16] * 2, [[0, FAIL]], *calls), 3)
        script = [[0, FAIL], [1, FAIL]]
        self.assertEqual(run([16] * 2, script, *calls, slots(0))[1:], [[1], [1, 1, 3] + A])
        self.assertEqual(ask_count([16] * 2, script, *calls, put_slot(0, A)), 3 + 1)

    def test_1_if_one_that_is_good_was_given_it_in_whichever_mirror(self):
        script = [[n, FAIL] for n in range(4)]
        self.assertEqual(run([16] * 2, script, begin(16, [0], [1]), put_slot(0, A))[1], [0])
        self.assertEqual(run([16] * 2, script[:2], begin(16, [0], [1]), put_slot(0, A))[1], [1])
        self.assertEqual(run([16] * 2, script[1:3], begin(16, [0], [1]), put_slot(0, A))[1], [1])

    def test_a_slot_that_is_not_of_the_pool_or_no_block(self):
        wrong = [put_slot(8, A), put_slot(MOST, A), put_slot(0, [1] * 1025), put_slot(0, [0] * 2000)]
        self.assertEqual(run([16], [], begin(16, [0]), *wrong, slots(0))[1:], [WRONG] * 4 + [[1, 0, 0]])
        self.assertEqual(ask_count([16], [], begin(16, [0]), *wrong), 0)


if __name__ == "__main__":
    unittest.main()
