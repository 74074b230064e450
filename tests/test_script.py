"""What the script says of asks, entry by entry."""

import unittest

from lines import FAIL, GOES, MOST, NO_POOL, OFF, POWER_WENT, ROT, SICK, TAKEN
from lines import ask_count, begin, flush, put_slot, read_of, run, slots, write


def kept(sizes, script, *calls):
    """Slot 0 of device 0 as the calls leave it, by a pool begun anew."""
    return run(sizes, script, *calls, begin(16, [0]), slots(0))[-1]


class Counting(unittest.TestCase):
    def test_asks_are_counted_over_all_devices(self):
        for n, shown in enumerate([[2, 1, 0, 2, 0], [2, 0, 0, 2, 0], [2, 0, 0, 1, 0], [3, 0, 0, 1, 0, 2, 0]]):
            found = run([16] * 3, [[n, FAIL]], begin(16, [0, 1], [2]), slots(0))
            self.assertEqual(found[1], shown)

    def test_reads_writes_and_flushes_count_one_each(self):
        self.assertEqual(ask_count([16], [], begin(16, [0]), put_slot(0, [1]), flush(), slots(0)), 3)

    def test_asks_that_fail_count_too(self):
        self.assertEqual(ask_count([16], [[0, FAIL]], begin(16, [0]), put_slot(0, [1])), 2)
        self.assertEqual(ask_count([16], [], begin(16, [1]), slots(0), put_slot(0, [1])), 3)

    def test_the_ask_in_which_the_power_goes_counts(self):
        self.assertEqual(ask_count([16], [[1, OFF, 0, 0]], begin(16, [0]), slots(0), slots(0)), 2)
        script = [[0, OFF, 0, 0], [1, OFF, 0, 0], [2, FAIL]]
        again = [begin(16, [0]), slots(0)]
        found = run([16], script, *again, *again, *again, *again)
        self.assertEqual(found[1::2], [POWER_WENT, POWER_WENT, [0], [1, 0, 0]])

    def test_the_first_entry_with_a_number_counts(self):
        found = run([16], [[1, SICK, 0], [0, SICK, 5], [0, GOES], [1, FAIL]], begin(16, [0]),
                    slots(0), slots(0), slots(0), slots(1))
        self.assertEqual(found[1:], [[1, 0, 0], [0], [0], [1, 0, 0]])

    def test_a_number_that_is_never_reached(self):
        self.assertEqual(run([16], [[MOST, GOES], [1, GOES]], begin(16, [0]), slots(0)), [[0], [1, 0, 0]])

    def test_a_thousand_entries(self):
        script = [[n, FAIL] for n in range(1000)]
        found = run([16], script, begin(16, [0]), slots(0), put_slot(0, [1]), slots(0))
        self.assertEqual(found[1:], [[0], [0], [0]])


class Fail(unittest.TestCase):
    def test_a_read_fails_this_once(self):
        found = run([16], [[0, FAIL]], begin(16, [0]), slots(0), slots(0))
        self.assertEqual(found[1:], [[0], [1, 0, 0]])

    def test_a_write_that_fails_is_not_on_its_way(self):
        script = [[1, FAIL], [2, FAIL]]
        calls = [begin(16, [0]), put_slot(0, [1]), put_slot(0, [2])]
        self.assertEqual(run([16], script, *calls)[2], [0])
        self.assertEqual(kept([16], script, *calls), [1, 0, 1, 1])


class Taken(unittest.TestCase):
    def test_a_read_fails(self):
        found = run([16], [[0, TAKEN]], begin(16, [0]), slots(0), slots(0))
        self.assertEqual(found[1:], [[0], [1, 0, 0]])

    def test_a_write_fails_and_is_on_its_way_all_the_same(self):
        script = [[0, TAKEN], [1, FAIL]]
        calls = [begin(16, [0]), put_slot(0, [1, 2])]
        self.assertEqual(run([16], script, *calls)[1], [0])
        self.assertEqual(kept([16], script, *calls), [1, 0, 2, 1, 2])

    def test_a_write_taken_and_done_is_on_its_way_twice(self):
        # The second of the two is the last, and is torn behind no byte at all.
        for mask, shown in ((0, [1, 0, 0]), (1, [1, 0, 1, 1]), (2, [1, 0, 1, 1]), (4, [1, 0, 0])):
            script = [[0, TAKEN], [2, OFF, mask, 1]]
            self.assertEqual(kept([16], script, begin(16, [0]), put_slot(0, [1, 2]), slots(0)), shown)

    def test_a_sick_block_stays_sick(self):
        script = [[0, SICK, 0], [1, TAKEN], [2, TAKEN]]
        calls = [begin(16, [0]), slots(7), put_slot(0, [1])]
        self.assertEqual(kept([16], script, *calls), [0])

    def test_a_block_that_the_device_has_not(self):
        script = [[0, TAKEN], [1, TAKEN]]
        self.assertEqual(run([2], script, begin(16, [0]), put_slot(2, [1]), begin(16, [0]), slots(2), slots(1)),
                         [[0], [0], [0], [0], [1, 0, 0]])


class Goes(unittest.TestCase):
    def test_it_is_gone_before_the_ask_is_answered_and_for_good(self):
        found = run([16], [[1, GOES]], begin(16, [0]), slots(0), slots(0), slots(0), begin(16, [0]), slots(0),
                    put_slot(0, [1]), begin(16, [0]), flush())
        self.assertEqual(found[1:], [[1, 0, 0], [0], [0], [0], [0], [0], [0], [0]])

    def test_the_device_that_is_asked_goes_alone(self):
        found = run([16] * 3, [[1, GOES]], begin(16, [0, 1, 2]), put_slot(0, [1]), slots(0))
        self.assertEqual(found[1:], [[1], [2, 0, 1, 1, 2, 1, 1]])

    def test_a_device_that_there_is_not_can_not_go(self):
        found = run([16], [[0, GOES], [1, SICK, 0], [2, ROT, 0, 0, 1]], begin(16, [5], [0]), put_slot(0, [3]),
                    begin(16, [5], [0]), slots(0))
        self.assertEqual(found[1:], [[1], [0], [1, 0, 1, 3]])


class Sick(unittest.TestCase):
    def test_it_fails_to_be_read_and_no_other_block_does(self):
        found = run([16, 16], [[0, SICK, 3]], begin(16, [0], [1]), slots(3), slots(3), slots(2))
        self.assertEqual(found[1:], [[1, 1, 0], [1, 1, 0], [2, 0, 0, 1, 0]])

    def test_a_write_makes_it_well(self):
        found = run([16], [[0, SICK, 0]], begin(16, [0]), slots(0), put_slot(0, [1]), slots(0))
        self.assertEqual(found[1:], [[0], [1], [1, 0, 1, 1]])

    def test_sick_in_the_very_ask_that_writes_it(self):
        found = run([16], [[0, SICK, 0]], begin(16, [0]), put_slot(0, [1]), slots(0))
        self.assertEqual(found[1:], [[1], [1, 0, 1, 1]])

    def test_a_write_of_another_block_or_a_flush_does_not(self):
        found = run([16], [[0, SICK, 0]], begin(16, [0]), slots(0), put_slot(1, [1]), flush(), slots(0))
        self.assertEqual(found[1:], [[0], [1], [1], [0]])

    def test_a_write_that_fails_does_not(self):
        found = run([16], [[0, SICK, 0], [1, FAIL], [2, FAIL]], begin(16, [0]), slots(0), put_slot(0, [1]),
                    begin(16, [0]), slots(0))
        self.assertEqual(found[-1], [0])

    def test_the_power_going_does_not(self):
        found = run([16], [[0, SICK, 0], [1, OFF, 0, 0]], begin(16, [0]), slots(0), slots(0), begin(16, [0]),
                    slots(0))
        self.assertEqual(found[1:], [[0], POWER_WENT, [0], [0]])

    def test_a_block_that_there_is_not(self):
        self.assertEqual(run([16], [[0, SICK, MOST]], begin(16, [0]), slots(0)), [[0], [1, 0, 0]])


class Rot(unittest.TestCase):
    def test_a_byte_is_another(self):
        found = run([16, 16], [[2, ROT, 0, 1, 77]], begin(16, [0], [1]), put_slot(0, [1, 2, 3]), slots(0))
        self.assertEqual(found[2], [2, 0, 3, 1, 77, 3, 1, 3, 1, 2, 3])

    def test_the_value_is_taken_modulo_256(self):
        for v, byte in ((255, [255]), (256, []), (258, [2]), (MOST, [255])):
            found = run([16], [[0, ROT, 4, 0, v]], begin(16, [0]), slots(4))
            self.assertEqual(found[1], [1, 0, len(byte)] + byte)

    def test_the_last_byte_and_one_behind_it(self):
        found = run([16], [[0, ROT, 4, 1023, 1]], begin(16, [0]), slots(4))
        self.assertEqual(found[1], [1, 0, 1024] + [0] * 1023 + [1])
        for j in (1024, MOST):
            self.assertEqual(run([16], [[0, ROT, 4, j, 1]], begin(16, [0]), slots(4))[1], [1, 0, 0])

    def test_what_is_on_its_way_becomes_sure_ahead_of_it(self):
        for k, j, shown in ((0, 0, [9, 2]), (3, 0, [1, 2]), (0, 1024, [1, 2]), (16, 0, [1, 2]), (MOST, MOST, [1, 2])):
            script = [[2, ROT, k, j, 9], [3, OFF, 0, 0]]
            found = kept([16], script, begin(16, [0]), put_slot(0, [5]), put_slot(0, [1, 2]), slots(1), slots(1))
            self.assertEqual(found, [1, 0, 2] + shown)

    def test_nothing_is_on_its_way_then(self):
        script = [[1, ROT, 0, 0, 9], [2, OFF, 1, 1]]
        self.assertEqual(kept([16], script, begin(16, [0]), put_slot(0, [1, 2]), slots(1), slots(1)),
                         [1, 0, 2, 9, 2])

    def test_the_ask_is_answered_behind_it(self):
        self.assertEqual(kept([16], [[0, ROT, 0, 1, 9]], begin(16, [0]), put_slot(0, [1])), [1, 0, 1, 1])

    def test_one_device_rots_where_one_block_was_written_to_two(self):
        found = run([16] * 2, [[2, ROT, 0, 0, 9]], begin(16, [0, 1]), put_slot(0, [1]), slots(0), slots(0))
        self.assertEqual(found[2:], [[2, 0, 1, 9, 1, 1, 1]] * 2)

    def test_a_sick_block_that_rots_stays_sick(self):
        script = [[0, SICK, 0], [1, ROT, 0, 0, 1]]
        self.assertEqual(kept([16], script, begin(16, [0]), slots(1), slots(1)), [0])


class Off(unittest.TestCase):
    def after(self, mask, length, *blocks):
        """Slot 0, sure as [1, 1, 1, 1], then written each block, then the power goes."""
        script = [[2 + len(blocks), OFF, mask, length]]
        puts = [put_slot(0, block) for block in blocks]
        return kept([16], script, begin(16, [0]), put_slot(0, [1, 1, 1, 1]), flush(), *puts, slots(0))[3:]

    def test_nothing_arrives(self):
        self.assertEqual(self.after(0, 1024, [2, 2]), [1, 1, 1, 1])
        self.assertEqual(self.after(2, 1024, [2, 2]), [1, 1, 1, 1])
        self.assertEqual(self.after(MOST, 1024), [1, 1, 1, 1])

    def test_the_last_arrives_with_its_first_bytes(self):
        self.assertEqual(self.after(1, 0, [2, 3]), [1, 1, 1, 1])
        self.assertEqual(self.after(1, 1, [2, 3]), [2, 1, 1, 1])
        self.assertEqual(self.after(1, 3, [2, 3]), [2, 3, 0, 1])
        self.assertEqual(self.after(1, 1023, [2, 3]), [2, 3])
        self.assertEqual(self.after(1, 1024, [2, 3]), [2, 3])
        self.assertEqual(self.after(1, MOST, [2, 3]), [2, 3])

    def test_the_last_byte_of_a_block(self):
        block = [2] * 1024
        self.assertEqual(self.after(1, 1023, block), [2] * 1023)
        self.assertEqual(self.after(1, 1024, block), block)

    def test_those_ahead_of_the_last_arrive_whole_and_in_order(self):
        self.assertEqual(self.after(3, 1, [2, 2], [3, 3, 3, 3]), [3, 2])
        self.assertEqual(self.after(7, 1, [2, 2], [3, 3, 3], [4, 4]), [4, 3, 3])
        self.assertEqual(self.after(5, 1, [2, 2], [3, 3, 3], [4, 4]), [4, 2])
        self.assertEqual(self.after(3, 1, [2, 2], [3, 3, 3], [4, 4]), [3, 2])

    def test_the_last_of_one_block_is_not_the_last_of_all(self):
        script = [[2, OFF, 3, 1]]
        calls = [begin(16, [0]), put_slot(0, [2, 2]), put_slot(1, [3, 3]), slots(0), begin(16, [0])]
        found = run([16], script, *calls, slots(0), slots(1))
        self.assertEqual(found[-2:], [[1, 0, 2, 2, 2], [1, 0, 1, 3]])

    def test_each_device_has_a_row_and_a_last_of_its_own(self):
        # Device 1 has [4, 4] as its first and last write, device 0 as its second.
        script = [[3, OFF, 3, 1]]
        calls = [begin(16, [0]), put_slot(1, [3, 3]), begin(16, [0], [1]), put_slot(0, [4, 4]), slots(0),
                 begin(16, [0], [1])]
        found = run([16] * 2, script, *calls, slots(0), slots(1))
        self.assertEqual(found[-2:], [[2, 0, 1, 4, 1, 1, 4], [2, 0, 2, 3, 3, 1, 0]])

    def test_devices_that_are_not_asked_lose_power_too(self):
        script = [[1, OFF, 0, 0]]
        found = run([16] * 2, script, begin(16, [1]), put_slot(0, [1]), begin(16, [0]), slots(0),
                    begin(16, [1]), slots(0))
        self.assertEqual(found[-1], [1, 1, 0])

    def test_places_in_the_row_are_taken_modulo_64(self):
        puts = [put_slot(n % 8, [n + 1]) for n in range(67)]
        script = [[67, OFF, 2**63 + 4, MOST]]
        found = run([16], script, begin(16, [0]), *puts, slots(0), begin(16, [0]), *[slots(k) for k in range(8)])
        shown = found[-8:]
        # 2, 63 and 66 arrive: in slots 2, 7 and 2.
        self.assertEqual(shown, [[1, 0, 0], [1, 0, 0], [1, 0, 1, 67], [1, 0, 0], [1, 0, 0], [1, 0, 0], [1, 0, 0],
                                 [1, 0, 1, 64]])

    def test_what_is_asked_for_is_not_on_its_way(self):
        self.assertEqual(kept([16], [[0, OFF, MOST, MOST]], begin(16, [0]), put_slot(0, [1])), [1, 0, 0])

    def test_a_flush_in_which_it_goes_makes_nothing_sure(self):
        self.assertEqual(kept([16], [[1, OFF, 0, 0]], begin(16, [0]), put_slot(0, [1]), flush()), [1, 0, 0])

    def test_nothing_is_on_its_way_behind_it(self):
        script = [[1, OFF, 0, 0], [2, OFF, MOST, MOST]]
        again = [begin(16, [0]), slots(0)]
        self.assertEqual(kept([16], script, begin(16, [0]), put_slot(0, [1]), slots(0), *again), [1, 0, 0])

    def test_it_goes_in_an_ask_of_a_device_that_is_gone_or_not_there(self):
        found = run([16], [[0, GOES], [1, OFF, 0, 0]], begin(16, [0]), slots(0), slots(0), slots(0))
        self.assertEqual(found[1:], [[0], POWER_WENT, NO_POOL])
        found = run([16], [[0, OFF, 0, 0]], begin(16, [3]), slots(0), slots(0))
        self.assertEqual(found[1:], [POWER_WENT, NO_POOL])

    def test_in_the_midst_of_each_call(self):
        block = [5, 6]
        heal = [begin(16, [1]), write(0, block), begin(16, [0, 1])]
        cases = [
            (1, [begin(16, [0, 1]), put_slot(0, block)]),
            (1, [begin(16, [0, 1]), slots(0)]),
            (1, [begin(16, [0, 1]), flush()]),
            (1, [begin(16, [0], [1]), flush()]),
            (1, [begin(16, [0, 1]), write(0, block)]),
            (1, heal + [read_of(0, block)]),
            (2, heal + [read_of(0, block)]),
            (3, heal + [read_of(0, block)]),
        ]
        for n, calls in cases:
            found = run([16] * 2, [[n, OFF, MOST, MOST]], *calls, slots(0), begin(16, [0]), slots(0))
            self.assertEqual(found[-4:-1], [POWER_WENT, NO_POOL, [0]])
            self.assertEqual(found.count(POWER_WENT), 1)

    def test_between_two_tries_of_a_put(self):
        found = run([16], [[0, FAIL], [1, OFF, 0, 0]], begin(16, [0]), put_slot(0, [1]), begin(16, [0]), slots(0))
        self.assertEqual(found[1:], [POWER_WENT, [0], [1, 0, 0]])

    def test_what_other_devices_were_given_ahead_of_it_may_arrive(self):
        for mask, shown in ((0, [2, 0, 0, 1, 0]), (1, [2, 0, 2, 5, 6, 1, 0])):
            found = run([16] * 2, [[1, OFF, mask, MOST]], begin(16, [0, 1]), put_slot(0, [5, 6]),
                        begin(16, [0, 1]), slots(0))
            self.assertEqual(found[1:], [POWER_WENT, [0], shown])

    def test_a_sick_block_whose_write_was_taken_keeps_it_behind_the_sickness(self):
        # The write arrives, cut behind one byte; the next write makes the block well, and is lost.
        script = [[0, SICK, 0], [1, TAKEN], [2, FAIL], [3, OFF, 1, 1], [5, OFF, 0, 0]]
        found = run([16], script, begin(16, [0]), slots(1), put_slot(0, [7, 8]), begin(16, [0]), slots(1),
                    begin(16, [0]), put_slot(0, [9]), slots(1), begin(16, [0]), slots(0))
        self.assertEqual(found[1:], [[1, 0, 0], [0], [0], POWER_WENT, [0], [1], POWER_WENT, [0], [1, 0, 1, 7]])


if __name__ == "__main__":
    unittest.main()
