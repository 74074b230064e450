"""Whole lines as they are laid out, number by number: what is handed in and what is given back."""

import unittest

from lines import FAIL, GOES, MOST, OFF, ROT, SICK, TAKEN
from lines import asks, begin, block_sum, devices, fill, flush, good, out, peek, places, put_slot
from lines import read, read_of, run, slots, state, sum_of, taken_apart, write
from mirrorpool.devices import answers


class Rows(unittest.TestCase):
    def test_sum_without_a_pool(self):
        self.assertEqual(answers([14, 0, 1, 1, 20, 11, 1, MOST, 1, 1, 1]), [0, 1, 6989726641219841806])

    def test_sum_at_a_place_that_the_pool_has_not(self):
        row = [14, 0, 1, 1, 20, 0, 1, 16, 1, 1, 0, 11, 1, 255, 1, 3, 1, 2, 3]
        self.assertEqual(answers(row), [0, 1, 0, 1, 16646169784975710012])

    def test_peek_of_sick_blocks_and_writes_on_their_way(self):
        row = [14, 0, 3, 1, 20, 3, 0, 3, MOST, 2, 1, 1,
               0, 1, 16, 1, 1, 0, 6, 1, 0, 1, 4, 7, 0, 8, 0, 12, 2, 0, 0, 0, 12, 2, 0, MOST, 0, 13, 0, 0,
               6, 1, 0, 1, 1, 9, 12, 2, 0, 0, 0, 13, 0, 0]
        self.assertEqual(answers(row), [0, 1, 0, 1, 1, 6, 0, 0, 1, 7, 0, 8, 3, 0, 1, 1, 1, 1,
                                        1, 1, 4, 0, 0, 3, 9, 1, 3])

    def test_behind_the_power_going(self):
        row = [14, 0, 2, 1, 20, 4, 1, 5, 1, 1, 0, 1, 16, 1, 1, 0, 6, 1, 0, 1, 2, 7, 8, 4, 0, 0,
               12, 2, 0, 0, 0, 13, 0, 0, 10, 1, 0, 0]
        self.assertEqual(answers(row), [0, 1, 0, 1, 1, 1, -100, 4, 0, 0, 0, 7, 1, 2, 1, -9])

    def test_states(self):
        row = [14, 0, 1, 2, 20, 20, 7, 1, 0, 0, 0, 1, 16, 1, 2, 0, 1, 7, 1, 0, 0, 10, 1, 0, 0, 8, 1, 1, 0,
               10, 1, 1, 0, 9, 1, 0, 0, 10, 1, 0, 0, 10, 1, 2, 0, 7, 1, 8, 0, 9, 1, MOST, 0, 13, 0, 0]
        self.assertEqual(answers(row), [0, 1, -9, 1, 0, 1, 0, 1, 2, 1, 0, 1, 1, 1, 0, 1, 0, 1, -2, 1, -2, 1, -2, 1, 0])

    def test_a_device_being_filled(self):
        row = [14, 0, 1, 2, 20, 20, 0, 1, 16, 1, 2, 0, 1, 8, 1, 0, 0, 3, 1, 0, 1, 1, 5,
               2, 2, 0, 6542477071611674657, 0, 4, 0, 0, 5, 1, 0, 0, 8, 1, 1, 0, 3, 1, 0, 1, 1, 6, 4, 0, 0, 13, 0, 0]
        self.assertEqual(answers(row), [0, 1, 0, 1, 0, 1, 1, 2, 1, 5, 1, 1, 3, 1, 1, 0, 1, 0, 1, 0, 1, 0, 1, 10])

    def test_devices_alone_is_answered_by_no_numbers(self):
        self.assertEqual(answers([14, 0, 1, 0]), [0])
        self.assertEqual(answers([14, 0, 2, 0, 2, 0, 0]), [0])

    def test_slots_are_told_with_their_counts(self):
        row = [14, 0, 2, 1, 16, 2, 0, 0, 0, 1, 16, 1, 1, 0, 6, 1, 3, 1, 2, 8, 9, 5, 1, 3, 0, 1, 0, 0]
        self.assertEqual(answers(row), [0, 1, 0, 1, 1, 5, 1, 0, 2, 8, 9, 1, 8])

    def test_a_refusal_is_one_number(self):
        self.assertEqual(answers([14, 0, 1, 0, 1, 0, 0, 0, 1, 1, 0]), [0, 1, -9, 1, -2])


class HandedIn(unittest.TestCase):
    def line(self):
        """Every call, in which things go well, fail, are refused, and lose power."""
        script = [[2, SICK, 0], [3, ROT, 0, 1, MOST], [9, TAKEN], [12, GOES], [20, OFF, MOST, 2], [20, FAIL]]
        block = [4] * 1024
        calls = [asks(), sum_of(0, [1]), flush(), begin(16, [0, 1], [2]), places(), put_slot(0, [1, 2, 3]), slots(0),
                 write(0, block), write(1, [5, 0, 0]), read_of(0, block), read(0, 0), put_slot(0, [4] * 1025), out(0),
                 state(0), fill(0), write(0, []), good(0), slots(0), peek(0, 0), peek(1, 8), peek(3, 0), flush(),
                 flush(), flush(), peek(0, 0), begin(16, [1], [0]), slots(0), sum_of(9, block), asks()]
        return sum(calls, devices([16, 16, 16], script))

    def test_every_call_is_answered(self):
        codes = {row[0] for row in (asks(), sum_of(0, []), flush(), begin(16), places(), put_slot(0, []), slots(0),
                                    write(0, []), read(0, 0), out(0), state(0), fill(0), good(0), peek(0, 0))}
        self.assertEqual(codes, set(range(14)))
        found = taken_apart(answers(self.line()))
        self.assertEqual(len(found), 30)
        self.assertEqual([one for one in found[1:] if one == []], [])
        self.assertIn([-100], found)

    def test_it_is_left_as_it_was(self):
        laid = self.line()
        answers(laid)
        self.assertEqual(laid, self.line())

    def test_a_second_time_is_answered_as_the_first(self):
        laid = self.line()
        first = answers(laid)
        kept = list(first)
        first.append(1)
        self.assertEqual(answers(laid), kept)

    def test_another_line_between_changes_nothing(self):
        first = answers(self.line())
        run([16, 16], [[0, GOES]], begin(16, [0, 1]), put_slot(0, [8]), out(1), fill(0), flush())
        self.assertEqual(answers(self.line()), first)

    def test_a_list_of_whole_numbers_is_given_back(self):
        given = answers(self.line())
        self.assertIs(type(given), list)
        self.assertEqual({type(n) for n in given}, {int})


class Long(unittest.TestCase):
    def test_400_calls(self):
        calls = [begin(16, [0])] + [put_slot(n % 8, [n % 256]) for n in range(398)] + [slots(5)]
        found = run([16], [], *calls)
        self.assertEqual(len(found), 400)
        self.assertEqual(found[-1], [1, 0, 1, 397 % 256])

    def test_400_sums(self):
        found = run([], [], *[sum_of(MOST - n, [n % 256]) for n in range(400)])
        self.assertEqual(found[0], [block_sum(MOST, [])])
        self.assertEqual(found[399], [block_sum(MOST - 399, [399 % 256])])

    def test_400_peeks_of_a_full_block(self):
        found = run([16], [], begin(16, [0]), put_slot(0, [7] * 1024), *[peek(0, 0)] * 398)
        self.assertEqual(found[2:], [[0, 0, 1] + [7] * 1024] * 398)


if __name__ == "__main__":
    unittest.main()
