"""Promise 8 (out, fill, good, state), and what promises 1 to 7 say of devices that are out or being filled."""

import unittest

from lines import FAIL, GOES, IS_FILLED, IS_GOOD, IS_OUT, MOST, NO_POOL, OFF, POWER_WENT, ROT, SICK, TAKEN, WRONG
from lines import ask_count, asks, begin, fill, flush, good, out, peek, places, put_slot
from lines import read_of, run, slots, state, write

A = [1, 2, 3]
B = [9, 0, 8]
GIVING = [(out, IS_OUT), (fill, IS_FILLED), (good, IS_GOOD)]


def bytes_of(shown):
    return shown[3:]


class States(unittest.TestCase):
    def test_all_are_good_at_first(self):
        mirrors = [[7], [0, 3], [4, 1, 2]]
        found = run([16] * 8, [], begin(16, *mirrors), *[state(d) for d in (0, 1, 2, 3, 4, 7)])
        self.assertEqual(found[1:], [IS_GOOD] * 6)

    def test_each_is_given_from_each(self):
        for give, is_given in GIVING:
            for behind, is_then in GIVING:
                found = run([16], [], begin(16, [0]), give(0), state(0), behind(0), state(0), state(0))
                self.assertEqual(found[1:], [[0], is_given, [0], is_then, is_then])

    def test_the_others_stay_as_they_are(self):
        states = [state(d) for d in range(4)]
        found = run([16] * 4, [], begin(16, [0, 1], [2, 3]), out(1), *states, fill(2), *states, good(1), *states)
        self.assertEqual(found[2:6], [IS_GOOD, IS_OUT, IS_GOOD, IS_GOOD])
        self.assertEqual(found[7:11], [IS_GOOD, IS_OUT, IS_FILLED, IS_GOOD])
        self.assertEqual(found[12:], [IS_GOOD, IS_GOOD, IS_FILLED, IS_GOOD])

    def test_a_device_that_is_not_of_the_pool(self):
        # Device 1 is of the line, and 3 of neither.
        for d in (1, 3, 8, 9, MOST):
            wrong = [out(d), fill(d), good(d), state(d)]
            found = run([16] * 3, [], begin(16, [0], [2]), fill(2), *wrong, state(0), state(2), asks())
            self.assertEqual(found[2:], [WRONG] * 4 + [IS_GOOD, IS_FILLED, [0]])

    def test_a_device_of_the_pool_that_there_is_not(self):
        for give, is_given in GIVING:
            found = run([], [], begin(16, [7]), give(7), state(7), state(0))
            self.assertEqual(found[1:], [[0], is_given, WRONG])

    def test_no_pool(self):
        for each in (out(0), fill(0), good(0), state(0), state(8)):
            self.assertEqual(run([16], [], each), [NO_POOL])

    def test_nobody_is_asked(self):
        calls = [give(d) for give, _ in GIVING for d in (0, 1)] + [state(0)]
        found = run([16] * 2, [[0, OFF, 0, 0]], begin(16, [0, 1]), *calls, peek(0, 0), peek(1, 0), asks())
        self.assertEqual(found[-3:], [[0, 0, 0], [0, 0, 0], [0]])

    def test_the_device_remembers_all_it_did(self):
        calls = [begin(16, [0]), put_slot(0, A), out(0), fill(0), good(0), peek(0, 0), slots(0)]
        self.assertEqual(run([16], [[1, SICK, 5]], *calls, peek(0, 5))[-3:], [[0, 0, 1] + A, [1, 0, 3] + A, [0, 1, 1]])

    def test_a_device_that_is_gone_can_be_called_good(self):
        found = run([16], [[0, GOES]], begin(16, [0]), flush(), state(0), good(0), state(0), slots(0), state(0))
        self.assertEqual(found[1:], [[0], IS_OUT, [0], IS_GOOD, [0], IS_GOOD])

    def test_a_refused_begin_leaves_them(self):
        found = run([16] * 3, [], begin(16, [0, 1, 2]), out(0), fill(1), begin(15, [0]), begin(16, [0, 0]),
                    state(0), state(1), state(2))
        self.assertEqual(found[3:], [WRONG, WRONG, IS_OUT, IS_FILLED, IS_GOOD])

    def test_behind_a_second_begin_all_are_good(self):
        found = run([16] * 3, [], begin(16, [0, 1]), out(0), fill(1), begin(16, [0, 1]), state(0), state(1), slots(0))
        self.assertEqual(found[3:], [[0], IS_GOOD, IS_GOOD, [2, 0, 0, 1, 0]])

    def test_a_second_begin_tells_which_are_of_the_pool(self):
        found = run([16] * 3, [], begin(16, [0, 1]), out(0), begin(16, [2]), state(0), state(1), state(2), out(1))
        self.assertEqual(found[3:], [WRONG, WRONG, IS_GOOD, WRONG])

    def test_behind_the_power_going_there_is_none_and_then_all_are_good(self):
        for give, _ in GIVING:
            found = run([16] * 2, [[0, OFF, 0, 0]], begin(16, [0, 1]), give(0), flush(), state(0), out(0),
                        begin(16, [0, 1]), state(0), state(1))
            self.assertEqual(found[2:], [POWER_WENT, NO_POOL, NO_POOL, [0], IS_GOOD, IS_GOOD])

    def test_one_line_knows_nothing_of_another(self):
        run([16], [], begin(16, [0]), out(0))
        self.assertEqual(run([16], [], begin(16, [0]), state(0))[1], IS_GOOD)


class PutOut(unittest.TestCase):
    """A device that two failed asks put out, and that is made good again."""

    def test_by_a_write_a_put_slot_or_a_flush(self):
        for each in (write(0, A), put_slot(0, A), flush()):
            for words in ((FAIL, FAIL), (TAKEN, TAKEN), (FAIL, TAKEN), (GOES, FAIL)):
                script = [[n, word] for n, word in enumerate(words)]
                found = run([16] * 2, script, begin(16, [0, 1]), each, state(0), state(1), each, asks())
                self.assertEqual(found[1:], [[1], IS_OUT, IS_GOOD, [1], [4]])

    def test_not_by_one_failed_ask(self):
        for each in (write(0, A), put_slot(0, A), flush()):
            found = run([16] * 2, [[0, FAIL], [3, FAIL]], begin(16, [0, 1]), each, state(0), each, state(0), asks())
            self.assertEqual(found[1:], [[1], IS_GOOD, [1], IS_GOOD, [6]])

    def test_by_a_read_that_mends_it(self):
        calls = [begin(16, [1]), write(0, A), begin(16, [0, 1]), read_of(0, A), state(0), state(1)]
        self.assertEqual(run([16] * 2, [[3, FAIL], [4, FAIL]], *calls)[3:], [[1] + A, IS_OUT, IS_GOOD])
        self.assertEqual(run([16] * 2, [[3, FAIL]], *calls)[3:], [[1] + A, IS_GOOD, IS_GOOD])

    def test_not_by_reads_that_fail(self):
        script = [[n, FAIL] for n in range(8)]
        calls = [begin(16, [0, 1]), slots(0), slots(0), read_of(0, []), read_of(0, []), state(0), state(1)]
        self.assertEqual(run([16] * 2, script, *calls)[1:], [[0]] * 4 + [IS_GOOD, IS_GOOD])

    def test_good_again_it_is_asked_again(self):
        calls = [begin(16, [0, 1]), write(0, A), good(0), state(0), write(0, B), peek(0, 8), read_of(0, B), flush(),
                 slots(0), put_slot(0, A), asks()]
        found = run([16] * 2, [[0, FAIL], [1, FAIL]], *calls)
        self.assertEqual(found[1:], [[1], [0], IS_GOOD, [1], [0, 0, 1] + B, [1] + B, [1], [2, 0, 0, 1, 0], [1],
                                     [3 + 2 + 1 + 2 + 2 + 2]])

    def test_good_again_it_goes_out_again(self):
        script = [[n, FAIL] for n in range(4)]
        calls = [begin(16, [0]), flush(), good(0), flush(), state(0), good(0), flush(), state(0)]
        self.assertEqual(run([16], script, *calls)[1:], [[0], [0], [0], IS_OUT, [0], [1], IS_GOOD])

    def test_filled_behind_it_it_is_put_blocks_again(self):
        calls = [begin(16, [0]), put_slot(0, A), fill(0), put_slot(0, B), peek(0, 0), state(0)]
        self.assertEqual(run([16], [[0, FAIL], [1, FAIL]], *calls)[1:], [[0], [0], [0], [0, 0, 1] + B, IS_FILLED])

    def test_one_being_filled_that_fails_twice(self):
        for each in (write(0, A), put_slot(0, A), flush()):
            found = run([16] * 2, [[0, FAIL], [1, FAIL]], begin(16, [0, 1]), fill(0), each, state(0), state(1), each,
                        asks())
            self.assertEqual(found[2:], [[1], IS_OUT, IS_GOOD, [1], [4]])

    def test_one_being_filled_that_fails_once_stays_being_filled(self):
        for each in (write(0, A), put_slot(0, A), flush()):
            found = run([16] * 2, [[0, FAIL]], begin(16, [0, 1]), fill(0), each, state(0), asks())
            self.assertEqual(found[2:], [[1], IS_FILLED, [3]])


class AtRead(unittest.TestCase):
    def test_one_out_or_being_filled_is_not_asked_and_not_put(self):
        for give in (out, fill):
            calls = [begin(16, [1]), write(0, A), begin(16, [0, 1]), give(0), read_of(0, A), peek(0, 8), asks()]
            self.assertEqual(run([16] * 2, [], *calls)[4:], [[1] + A, [0, 0, 0], [2]])

    def test_one_that_has_it_alone_but_is_not_good(self):
        for give in (out, fill):
            calls = [begin(16, [0]), write(0, A), begin(16, [0, 1]), give(0), read_of(0, A), asks()]
            self.assertEqual(run([16] * 2, [], *calls)[4:], [[0], [2]])

    def test_none_is_good(self):
        for give in (out, fill):
            calls = [begin(16, [0, 1]), write(0, A), give(0), give(1), read_of(0, A), asks()]
            self.assertEqual(run([16] * 2, [], *calls)[4:], [[0], [2]])

    def test_one_in_the_midst_is_passed_over(self):
        for give in (out, fill):
            calls = [begin(16, [2]), write(0, A), begin(16, [0, 1, 2]), give(1), read_of(0, A)]
            found = run([16] * 3, [], *calls, *[peek(d, 8) for d in range(3)], asks())
            self.assertEqual(found[4:], [[1] + A, [0, 0, 1] + A, [0, 0, 0], [0, 0, 1] + A, [1 + 2 + 1]])

    def test_good_again_it_is_asked_and_put(self):
        for give in (out, fill):
            calls = [begin(16, [0, 1]), give(0), write(0, A), good(0), read_of(0, A), peek(0, 8), asks()]
            found = run([16] * 2, [[5, ROT, 8, 0, 7]], *calls)
            self.assertEqual(found[4], [1] + A)
            self.assertEqual(bytes_of(found[5]), A)
        # The one that was out lacked it: a write, two reads and a put; the one that was filled has it.
        self.assertEqual(ask_count([16] * 2, [], begin(16, [0, 1]), out(0), write(0, A), good(0), read_of(0, A)), 4)
        self.assertEqual(ask_count([16] * 2, [], begin(16, [0, 1]), fill(0), write(0, A), good(0), read_of(0, A)), 3)


class AtWrite(unittest.TestCase):
    def test_one_out_is_not_put_it(self):
        calls = [begin(16, [0, 1]), out(0), write(0, A), peek(0, 8), peek(1, 8), asks()]
        self.assertEqual(run([16] * 2, [], *calls)[2:], [[1], [0, 0, 0], [0, 0, 1] + A, [1]])

    def test_all_out(self):
        calls = [begin(16, [0, 1]), out(0), out(1), write(0, A), asks()]
        self.assertEqual(run([16] * 2, [], *calls)[3:], [[0], [0]])

    def test_one_being_filled_is_put_it_in_order(self):
        calls = [begin(16, [1, 0]), fill(0), write(0, A), peek(0, 8), peek(1, 8), asks()]
        self.assertEqual(run([16] * 2, [], *calls)[2:], [[1], [0, 0, 1] + A, [0, 0, 1] + A, [2]])
        found = run([16] * 2, [[0, GOES]], *calls)
        self.assertEqual(found[2:], [[0], [0, 0, 1] + A, [1, 0, 0], [3]])

    def test_one_being_filled_does_not_count(self):
        calls = [begin(16, [0, 1]), fill(0), fill(1), write(0, A), peek(0, 8), peek(1, 8)]
        self.assertEqual(run([16] * 2, [], *calls)[3:], [[0], [0, 0, 1] + A, [0, 0, 1] + A])
        # The good one fails twice, the one being filled doesn't.
        calls = [begin(16, [0, 1]), fill(0), write(0, A), state(0), state(1)]
        self.assertEqual(run([16] * 2, [[1, FAIL], [2, FAIL]], *calls)[2:], [[0], IS_FILLED, IS_OUT])

    def test_good_again_it_counts(self):
        for give in (out, fill):
            calls = [begin(16, [0]), give(0), write(0, A), good(0), write(0, B), peek(0, 8)]
            found = run([16], [], *calls)
            self.assertEqual(found[2:5], [[0], [0], [1]])
            self.assertEqual(bytes_of(found[5]), B)

    def test_one_of_another_mirror_does_not_matter(self):
        for give in (out, fill):
            calls = [begin(16, [0], [1]), give(1), write(0, A), write(1, A)]
            self.assertEqual(run([16] * 2, [], *calls)[2:], [[1], [0]])


class AtFlush(unittest.TestCase):
    def test_one_out_is_not_asked(self):
        calls = [begin(16, [0, 1]), put_slot(0, A), out(0), flush(), peek(0, 0), peek(1, 0), asks()]
        self.assertEqual(run([16] * 2, [], *calls)[3:], [[1], [0, 0, 1] + A, [0, 0, 0] + A, [3]])

    def test_one_being_filled_is_asked(self):
        calls = [begin(16, [0, 1]), put_slot(0, A), fill(0), flush(), peek(0, 0), peek(1, 0), asks()]
        self.assertEqual(run([16] * 2, [], *calls)[3:], [[1], [0, 0, 0] + A, [0, 0, 0] + A, [4]])

    def test_a_mirror_needs_one_that_is_good(self):
        for give in (out, fill):
            self.assertEqual(run([16] * 3, [], begin(16, [0], [1, 2]), give(0), flush())[2], [0])
            self.assertEqual(run([16] * 3, [], begin(16, [0], [1, 2]), give(1), flush())[2], [1])
            self.assertEqual(run([16] * 3, [], begin(16, [0], [1, 2]), give(1), give(2), flush())[3], [0])

    def test_a_good_one_that_goes_out_in_it_leaves_none(self):
        calls = [begin(16, [0, 1]), fill(0), flush(), state(0), state(1)]
        self.assertEqual(run([16] * 2, [[1, FAIL], [2, FAIL]], *calls)[2:], [[0], IS_FILLED, IS_OUT])

    def test_good_again_it_counts(self):
        for give in (out, fill):
            calls = [begin(16, [0]), put_slot(0, A), give(0), flush(), good(0), flush(), peek(0, 0)]
            self.assertEqual(run([16], [], *calls)[3:], [[0], [0], [1], [0, 0, 0] + A])


class AtSlots(unittest.TestCase):
    def test_one_out_or_being_filled_is_not_asked(self):
        for give in (out, fill):
            calls = [begin(16, [2, 0], [1]), put_slot(3, A), give(0), slots(3), asks()]
            self.assertEqual(run([16] * 3, [], *calls)[3:], [[2, 2, 3] + A + [1, 3] + A, [3 + 2]])

    def test_none_is_good(self):
        calls = [begin(16, [0], [1]), fill(0), out(1), slots(0), asks()]
        self.assertEqual(run([16] * 2, [], *calls)[3:], [[0], [0]])

    def test_good_again_it_is_asked_in_its_old_order(self):
        for give in (out, fill):
            calls = [begin(16, [2, 0], [1]), give(2), give(0), good(0), good(2), slots(3), asks()]
            self.assertEqual(run([16] * 3, [], *calls)[5:], [[3, 2, 0, 0, 0, 1, 0], [3]])


class AtPutSlot(unittest.TestCase):
    def test_one_out_is_not_put_it(self):
        calls = [begin(16, [0], [1]), out(0), put_slot(7, A), peek(0, 7), peek(1, 7), asks()]
        self.assertEqual(run([16] * 2, [], *calls)[2:], [[1], [0, 0, 0], [0, 0, 1] + A, [1]])

    def test_one_being_filled_is_put_it_and_does_not_count(self):
        calls = [begin(16, [0], [1]), fill(0), put_slot(7, A), peek(0, 7), peek(1, 7), asks()]
        self.assertEqual(run([16] * 2, [], *calls)[2:], [[1], [0, 0, 1] + A, [0, 0, 1] + A, [2]])
        self.assertEqual(run([16] * 2, [[1, FAIL], [2, FAIL]], *calls)[2:], [[0], [0, 0, 1] + A, [0, 0, 0], [3]])
        self.assertEqual(run([16], [], begin(16, [0]), fill(0), put_slot(7, A))[2], [0])

    def test_all_out(self):
        calls = [begin(16, [0], [1]), out(0), out(1), put_slot(7, A), asks()]
        self.assertEqual(run([16] * 2, [], *calls)[3:], [[0], [0]])

    def test_good_again_it_counts(self):
        for give in (out, fill):
            calls = [begin(16, [0]), give(0), put_slot(0, A), good(0), put_slot(0, B), slots(0)]
            self.assertEqual(run([16], [], *calls)[2:], [[0], [0], [1], [1, 0, 3] + B])


class AtTheRest(unittest.TestCase):
    def test_places_are_as_many(self):
        for give, _ in GIVING:
            self.assertEqual(run([16] * 2, [], begin(16, [0], [1]), give(0), give(1), places())[-1], [16])

    def test_what_is_refused_is_refused_all_the_same(self):
        wrong = [read_of(8, A), write(8, A), write(0, [0] * 1025), slots(8), put_slot(8, A), put_slot(0, [0] * 1025)]
        for give, is_given in GIVING:
            found = run([16], [], begin(16, [0]), give(0), *wrong, state(0), asks())
            self.assertEqual(found[2:], [WRONG] * 6 + [is_given, [0]])

    def test_the_power_going_takes_what_is_on_its_way_to_one_that_is_out(self):
        calls = [begin(16, [0, 1]), put_slot(0, A), out(0), slots(0), peek(0, 0), peek(1, 0)]
        self.assertEqual(run([16] * 2, [[2, OFF, 0, 0]], *calls)[3:], [POWER_WENT, [0, 0, 0], [0, 0, 0]])
        self.assertEqual(run([16] * 2, [[2, OFF, 1, 2]], *calls)[3:], [POWER_WENT] + [[0, 0, 0, 1, 2]] * 2)


if __name__ == "__main__":
    unittest.main()
