"""Promises 9 (sum) and 10 (peek and asks): what is told without asking anybody."""

import unittest

from lines import FAIL, GOES, MOST, OFF, POWER_WENT, ROT, SICK, TAKEN, WRONG
from lines import ask_count, asks, begin, block_sum, fill, flush, good, out, peek, places, put_slot
from lines import read, read_of, run, slots, state, sum_of, write

A = [1, 2, 3]
B = [9, 0, 8]


class SumOf(unittest.TestCase):
    def summed(self, place, block):
        return run([], [], sum_of(place, block))[0]

    def test_known_sums(self):
        self.assertEqual(self.summed(MOST, [1]), [6989726641219841806])
        self.assertEqual(self.summed(255, A), [16646169784975710012])
        self.assertEqual(self.summed(0, [5]), [6542477071611674657])

    def test_places_of_all_sizes(self):
        for place in (0, 1, 255, 256, 258, 513, 65535, 2**32 - 1, 2**32, 2**56, 2**63, 0x0102030405060708, MOST - 1):
            self.assertEqual(self.summed(place, A), [block_sum(place, A)])

    def test_blocks_of_many_kinds(self):
        for block in ([], [1], [0, 0, 1], [255] * 1024, [n % 256 for n in range(1023)], [0] * 1023 + [128]):
            self.assertEqual(self.summed(3, block), [block_sum(3, block)])

    def test_zeros_behind_it_change_nothing(self):
        self.assertEqual(self.summed(7, []), self.summed(7, [0] * 1024))
        self.assertEqual(self.summed(7, A), self.summed(7, A + [0]))
        self.assertEqual(self.summed(7, A), self.summed(7, A + [0] * 1021))

    def test_zeros_ahead_of_it_do(self):
        self.assertNotEqual(self.summed(7, A), self.summed(7, [0] + A))

    def test_no_block(self):
        for block in ([0] * 1025, [1] * 1025, [1] * 2000):
            self.assertEqual(self.summed(0, block), WRONG)
            self.assertEqual(run([16], [], begin(16, [0]), sum_of(0, block), sum_of(8, block))[1:], [WRONG] * 2)

    def test_a_place_that_the_pool_has_not(self):
        found = run([16], [], begin(16, [0]), sum_of(7, A), sum_of(8, A), sum_of(MOST, A))
        self.assertEqual(found[1:], [[block_sum(place, A)] for place in (7, 8, MOST)])

    def test_it_is_the_sum_that_a_read_takes(self):
        for place, block in ((0, A), (7, []), (5, [255] * 1024)):
            its = run([16], [], sum_of(place, block))[0][0]
            found = run([16], [], begin(16, [0]), write(place, block), read(place, its), read(place, its ^ 1))
            self.assertEqual(found[2:], [[1] + block, [0]])

    def test_nobody_is_asked_and_nothing_kept(self):
        found = run([16], [[0, OFF, 0, 0]], begin(16, [0]), sum_of(0, A), sum_of(0, [0] * 1025), peek(0, 8), state(0),
                    asks())
        self.assertEqual(found[3:], [[0, 0, 0], [0], [0]])

    def test_a_pool_that_is_out_does_not_matter(self):
        self.assertEqual(run([16], [], begin(16, [0]), out(0), sum_of(1, A))[2], [block_sum(1, A)])


class Peek(unittest.TestCase):
    def test_at_first(self):
        found = run([3, 0, 4096], [], peek(0, 0), peek(0, 2), peek(1, 0), peek(2, 4095))
        self.assertEqual(found, [[0, 0, 0]] * 4)

    def test_a_device_that_there_is_not(self):
        self.assertEqual(run([16] * 2, [], peek(2, 0), peek(8, 0), peek(MOST, MOST)), [[0, 0, 0]] * 3)
        self.assertEqual(run([], [], peek(0, 0)), [[0, 0, 0]])
        # Even where it was asked, and told to go, sicken and be taken from.
        script = [[0, GOES], [1, SICK, 0], [2, TAKEN], [3, ROT, 0, 0, 9]]
        calls = [begin(16, [5]), put_slot(0, A), good(5), put_slot(0, A), peek(5, 0)]
        self.assertEqual(run([16], script, *calls)[-1], [0, 0, 0])

    def test_the_bytes_up_to_the_last_that_is_not_0(self):
        for block in ([], [0, 5, 0, 255], [7] * 1024, [0] * 1023 + [1]):
            found = run([16], [], begin(16, [0]), put_slot(6, block + [0] * (1024 - len(block))), peek(0, 6),
                        flush(), peek(0, 6))
            self.assertEqual(found[2:], [[0, 0, 1] + block, [1], [0, 0, 0] + block])

    def test_each_device_and_block_by_its_own(self):
        calls = [begin(16, [0], [1]), put_slot(2, A), write(0, B), write(1, [4])]
        found = run([16] * 2, [], *calls, peek(0, 2), peek(1, 2), peek(0, 8), peek(1, 8), peek(0, 0))
        self.assertEqual(found[4:], [[0, 0, 2] + A, [0, 0, 2] + A, [0, 0, 2] + B, [0, 0, 2, 4], [0, 0, 2]])

    def test_writes_on_their_way_are_counted_over_all_blocks(self):
        calls = [begin(16, [0]), put_slot(0, A), put_slot(0, B), put_slot(1, A), peek(0, 0), peek(0, 1), peek(0, 2)]
        self.assertEqual(run([16], [], *calls)[4:], [[0, 0, 3] + B, [0, 0, 3] + A, [0, 0, 3]])
        self.assertEqual(run([16], [], *calls, flush(), peek(0, 0), put_slot(0, A), peek(0, 0))[7:],
                         [[1], [0, 0, 0] + B, [1], [0, 0, 1] + A])

    def test_many_on_their_way(self):
        puts = [put_slot(n % 8, [n % 256]) for n in range(390)]
        self.assertEqual(run([16], [], begin(16, [0]), *puts, peek(0, 5))[-1], [0, 0, 390, 389 % 256])

    def test_a_write_that_is_taken_and_one_that_fails(self):
        self.assertEqual(run([16], [[0, TAKEN]], begin(16, [0]), put_slot(0, A), peek(0, 0))[2], [0, 0, 2] + A)
        self.assertEqual(run([16], [[0, FAIL]], begin(16, [0]), put_slot(0, A), peek(0, 0))[2], [0, 0, 1] + A)
        script = [[0, TAKEN], [1, FAIL]]
        self.assertEqual(run([16], script, begin(16, [0]), put_slot(0, A), peek(0, 0), state(0))[1:],
                         [[0], [0, 0, 1] + A, [2]])
        script = [[0, FAIL], [1, FAIL]]
        self.assertEqual(run([16], script, begin(16, [0]), put_slot(0, A), peek(0, 0))[1:], [[0], [0, 0, 0]])

    def test_a_device_that_is_gone_is_told_all_the_same(self):
        calls = [begin(16, [0, 1]), put_slot(0, A), flush(), put_slot(0, B), slots(1), peek(0, 0), peek(0, 1),
                 peek(1, 0)]
        found = run([16] * 2, [[6, GOES]], *calls)
        self.assertEqual(found[4:], [[1, 1, 0], [1, 0, 1] + B, [1, 0, 1], [0, 0, 1] + B])

    def test_a_device_that_is_gone_stays_so(self):
        script = [[0, GOES], [3, OFF, 0, 0]]
        calls = [begin(16, [0]), slots(0), peek(0, 0), begin(16, [0]), good(0), flush(), begin(16, [0]), slots(0),
                 peek(0, 0), begin(16, [0]), peek(0, 0)]
        found = run([16], script, *calls)
        self.assertEqual(found[2], [1, 0, 0])
        self.assertEqual(found[7:], [POWER_WENT, [1, 0, 0], [0], [1, 0, 0]])

    def test_one_that_is_gone_and_taken_has_nothing_on_its_way(self):
        script = [[0, GOES], [1, TAKEN]]
        self.assertEqual(run([16], script, begin(16, [0]), put_slot(0, A), peek(0, 0))[1:], [[0], [1, 0, 0]])

    def test_a_sick_block_is_told_all_the_same(self):
        calls = [begin(16, [0]), put_slot(0, A), slots(1), peek(0, 0), peek(0, 1)]
        self.assertEqual(run([16], [[1, SICK, 0]], *calls)[3:], [[0, 1, 1] + A, [0, 0, 1]])
        # Of a gone device too.
        calls += [slots(0), peek(0, 0)]
        self.assertEqual(run([16], [[1, SICK, 0], [2, GOES]], *calls)[-1], [1, 1, 1] + A)

    def test_what_makes_a_sick_block_well(self):
        sick = [begin(16, [0]), slots(0)]
        for behind, well in ((put_slot(0, A), 0), (put_slot(1, A), 1), (flush(), 1), (slots(0), 1), (good(0), 1)):
            found = run([16], [[0, SICK, 0]], *sick, behind, peek(0, 0))
            self.assertEqual(found[3][:2], [0, well])
        for words in ((FAIL, FAIL), (TAKEN, TAKEN)):
            script = [[0, SICK, 0], [1, words[0]], [2, words[1]]]
            found = run([16], script, *sick, put_slot(0, A), peek(0, 0))
            self.assertEqual(found[3][:2], [0, 1])

    def test_a_sick_block_that_is_sick_again_is_well_by_one_write(self):
        script = [[0, SICK, 0], [1, SICK, 0]]
        found = run([16], script, begin(16, [0]), slots(0), slots(0), peek(0, 0), put_slot(0, A), peek(0, 0))
        self.assertEqual(found[3:], [[0, 1, 0], [1], [0, 0, 1] + A])

    def test_the_device_that_was_asked_sickens_alone(self):
        found = run([16] * 2, [[1, SICK, 0]], begin(16, [0, 1]), slots(0), peek(0, 0), peek(1, 0))
        self.assertEqual(found[1:], [[1, 0, 0], [0, 0, 0], [0, 1, 0]])

    def test_a_block_that_it_has_not(self):
        found = run([3], [], begin(16, [0]), put_slot(2, A), put_slot(3, B), peek(0, 2), peek(0, 3), peek(0, MOST))
        self.assertEqual(found[1:], [[1], [0], [0, 0, 1] + A, [0, 0, 1], [0, 0, 1]])
        for k in (16, MOST):
            found = run([16], [[0, SICK, k]], begin(16, [0]), slots(0), peek(0, k), peek(0, 0))
            self.assertEqual(found[2:], [[0, 1, 0], [0, 0, 0]])

    def test_a_write_that_is_taken_of_a_block_that_it_has_not(self):
        found = run([3], [[0, TAKEN], [1, TAKEN]], begin(16, [0]), put_slot(3, A), peek(0, 3))
        self.assertEqual(found[1:], [[0], [0, 0, 0]])

    def test_rot(self):
        script = [[2, ROT, 0, 1, 511]]
        calls = [begin(16, [0]), put_slot(0, A), put_slot(1, B), slots(5), peek(0, 0), peek(0, 1)]
        self.assertEqual(run([16], script, *calls)[4:], [[0, 0, 0, 1, 255, 3], [0, 0, 0] + B])
        # In the ask of a write, what's written is on its way behind it.
        found = run([16], [[1, ROT, 0, 0, 7]], begin(16, [0]), put_slot(0, A), put_slot(0, B), peek(0, 0))
        self.assertEqual(found[3], [0, 0, 1] + B)

    def test_rot_of_a_block_that_it_has_not(self):
        for k in (3, 16, MOST):
            found = run([3], [[1, ROT, k, 0, 7]], begin(16, [0]), put_slot(0, A), slots(0), peek(0, k), peek(0, 0))
            self.assertEqual(found[2:], [[1, 0, 3] + A, [0, 0, 0], [0, 0, 0] + A])

    def test_rot_of_a_device_that_is_gone(self):
        script = [[1, GOES], [2, ROT, 0, 0, 7]]
        calls = [begin(16, [0]), put_slot(0, A), slots(0), slots(0), peek(0, 0)]
        self.assertEqual(run([16], script, *calls)[4], [1, 0, 0, 7, 2, 3])

    def test_sickness_of_a_device_that_is_gone(self):
        found = run([16], [[0, GOES], [1, SICK, 4]], begin(16, [0]), slots(0), slots(0), peek(0, 4))
        self.assertEqual(found[3], [1, 1, 0])

    def test_behind_a_call_in_which_the_power_went(self):
        calls = [begin(16, [0, 1]), put_slot(0, [5] * 4), flush(), put_slot(0, [6] * 4), put_slot(1, [7] * 4),
                 slots(0), peek(0, 0), peek(0, 1), peek(1, 0), peek(1, 1)]
        for mask, length, zero, one in ((0, 9, [5] * 4, []), (1, 1, [6, 5, 5, 5], []), (2, 3, [5] * 4, [7] * 3),
                                        (3, 1, [6] * 4, [7]), (MOST, MOST, [6] * 4, [7] * 4)):
            found = run([16] * 2, [[8, OFF, mask, length]], *calls)
            self.assertEqual(found[5:], [POWER_WENT] + [[0, 0, 0] + zero, [0, 0, 0] + one] * 2)

    def test_one_that_is_gone_is_given_what_arrives(self):
        script = [[1, GOES], [2, OFF, 1, 1]]
        calls = [begin(16, [0]), put_slot(0, A), slots(0), slots(0), peek(0, 0)]
        self.assertEqual(run([16], script, *calls)[3:], [POWER_WENT, [1, 0, 0, 1]])

    def test_a_sick_block_is_sick_behind_it(self):
        script = [[0, SICK, 0], [1, OFF, 0, 0]]
        self.assertEqual(run([16], script, begin(16, [0]), slots(0), slots(0), peek(0, 0))[2:], [POWER_WENT, [0, 1, 0]])

    def test_a_begin_changes_nothing_of_it(self):
        found = run([16], [], begin(16, [0]), put_slot(0, A), begin(16, [1]), peek(0, 0), begin(9, [0]), peek(0, 0))
        self.assertEqual(found[2:], [[0], [0, 0, 1] + A, WRONG, [0, 0, 1] + A])

    def test_it_changes_nothing_and_asks_nobody(self):
        calls = [begin(16, [0]), put_slot(0, A)]
        seen = [peek(0, 0)] * 3 + [peek(0, 99), peek(1, 0)]
        found = run([16], [[1, OFF, 0, 0]], *calls, *seen, asks(), *seen)
        self.assertEqual(found[2:], ([[0, 0, 1] + A] * 3 + [[0, 0, 1], [0, 0, 0]]) + [[1]]
                         + ([[0, 0, 1] + A] * 3 + [[0, 0, 1], [0, 0, 0]]))

    def test_devices_that_are_not_of_the_pool(self):
        found = run([16] * 2, [], begin(16, [0]), put_slot(0, A), begin(16, [1]), peek(0, 0), out(1), peek(1, 0))
        self.assertEqual(found[3:], [[0, 0, 1] + A, [0], [0, 0, 0]])


class Asks(unittest.TestCase):
    def test_none_so_far(self):
        self.assertEqual(run([], [], asks(), asks()), [[0], [0]])
        self.assertEqual(run([16], [], asks(), begin(16, [0]), asks(), begin(0), asks())[::2], [[0]] * 3)

    def test_each_ask_by_the_call_that_makes_it(self):
        calls = [begin(16, [0, 1], [2]), put_slot(0, A), write(0, A), write(1, A), flush(), slots(0), read_of(0, A)]
        spread = [each for one in calls for each in (one, asks())]
        self.assertEqual(run([16] * 3, [], *spread)[1::2], [[0], [3], [5], [6], [9], [12], [13]])

    def test_they_go_on_behind_another_begin(self):
        found = run([16], [], begin(16, [0]), flush(), begin(16, [0]), asks(), flush(), asks())
        self.assertEqual(found[3:], [[1], [1], [2]])

    def test_it_is_the_number_of_the_next_ask(self):
        calls = [begin(16, [0, 1]), put_slot(0, A), flush(), slots(0)]
        n = ask_count([16] * 2, [], *calls)
        found = run([16] * 2, [[n, FAIL]], *calls, asks(), slots(0), slots(0), asks())
        both = [2, 0, 3] + A + [1, 3] + A
        self.assertEqual(found[3:], [both, [n], [1, 1, 3] + A, both, [n + 4]])

    def test_those_that_fail_count(self):
        for word in (FAIL, TAKEN, GOES):
            self.assertEqual(ask_count([16], [[0, word], [1, word]], begin(16, [0]), flush()), 2)
        self.assertEqual(ask_count([], [], begin(16, [3]), put_slot(0, A)), 2)
        self.assertEqual(ask_count([2], [], begin(16, [0]), slots(5), write(0, A)), 3)

    def test_the_one_in_which_the_power_goes_counts(self):
        found = run([16], [[1, OFF, 0, 0]], begin(16, [0]), put_slot(0, A), flush(), asks(), begin(16, [0]), asks(),
                    flush(), asks())
        self.assertEqual(found[2:], [POWER_WENT, [2], [0], [2], [1], [3]])

    def test_those_behind_it_in_the_call_are_not_made(self):
        self.assertEqual(ask_count([16] * 3, [[1, OFF, 0, 0]], begin(16, [0, 1, 2]), slots(0)), 2)

    def test_refusals_count_nothing(self):
        wrong = [read_of(8, A), write(8, A), write(0, [0] * 1025), slots(8), put_slot(8, A), put_slot(0, [0] * 1025),
                 out(1), fill(1), good(1), state(1), sum_of(0, [0] * 1025), begin(15, [0])]
        found = run([16], [], begin(16, [0]), flush(), *wrong, asks())
        self.assertEqual(found[2:], [WRONG] * 12 + [[1]])
        self.assertEqual(run([16], [], *wrong, asks())[-1], [0])

    def test_what_asks_nobody_counts_nothing(self):
        calls = [begin(16, [0]), places(), out(0), fill(0), good(0), state(0), sum_of(0, A), peek(0, 0), asks(), asks()]
        self.assertEqual(run([16], [], *calls)[-2:], [[0], [0]])


if __name__ == "__main__":
    unittest.main()
