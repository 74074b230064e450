"""What the document says of blocks, and of the devices' reading, writing and flushing."""

import unittest

from lines import FAIL, GOES, POWER_WENT, WRONG, TAKEN, SICK, OFF
from lines import begin, flush, put_slot, run, slots


class Blocks(unittest.TestCase):
    def shown(self, block):
        """The bytes that slot 0 tells once it was put this block."""
        found = run([16], [], begin(16, [0]), put_slot(0, block), slots(0))
        self.assertEqual(found[1], [1])
        self.assertEqual(found[2][:2], [1, 0])
        self.assertEqual(found[2][2], len(found[2]) - 3)
        return found[2][3:]

    def test_all_zeros_at_first(self):
        self.assertEqual(run([16], [], begin(16, [0]), slots(7)), [[0], [1, 0, 0]])

    def test_no_bytes(self):
        self.assertEqual(self.shown([]), [])

    def test_zeros_alone(self):
        self.assertEqual(self.shown([0]), [])
        self.assertEqual(self.shown([0] * 1024), [])

    def test_zeros_behind_are_not_told_and_zeros_within_are(self):
        self.assertEqual(self.shown([0, 5, 0, 255, 0, 0]), [0, 5, 0, 255])

    def test_1024_bytes(self):
        self.assertEqual(self.shown([7] * 1024), [7] * 1024)
        self.assertEqual(self.shown([0] * 1023 + [1]), [0] * 1023 + [1])

    def test_more_than_1024_bytes_is_no_block_even_if_zeros(self):
        for block in ([1] * 1025, [1] * 2000, [0] * 1025):
            found = run([16], [[0, GOES]], begin(16, [0]), put_slot(0, block))
            self.assertEqual(found, [[0], WRONG])

    def test_a_shorter_block_leaves_nothing_of_a_longer_one(self):
        found = run([16], [], begin(16, [0]), put_slot(0, [1, 2, 3]), flush(), put_slot(0, [9]), slots(0),
                    flush(), slots(0))
        self.assertEqual(found[4], [1, 0, 1, 9])
        self.assertEqual(found[6], [1, 0, 1, 9])


class Now(unittest.TestCase):
    def test_the_last_write_on_its_way_is_read(self):
        found = run([16], [], begin(16, [0]), put_slot(0, [1]), put_slot(1, [5]), put_slot(0, [2]),
                    slots(0), slots(1), slots(2))
        self.assertEqual(found[4:], [[1, 0, 1, 2], [1, 0, 1, 5], [1, 0, 0]])

    def test_writes_become_sure_in_order(self):
        # The last ask is the one in which the power goes, and nothing on its way arrives.
        found = run([16], [[3, OFF, 0, 0]], begin(16, [0]), put_slot(0, [1]), put_slot(0, [2]), flush(),
                    slots(0), begin(16, [0]), slots(0))
        self.assertEqual(found[3:], [[1], POWER_WENT, [0], [1, 0, 1, 2]])

    def test_what_was_flushed_is_on_its_way_no_more(self):
        # Were [1] still on its way, it would arrive anew, over [2].
        script = [[2, SICK, 3], [4, OFF, 1, 1024]]
        found = run([16], script, begin(16, [0]), put_slot(0, [1]), flush(), slots(0), put_slot(0, [2]),
                    slots(0), begin(16, [0]), slots(0))
        self.assertEqual(found[5:], [POWER_WENT, [0], [1, 0, 1, 2]])

    def test_a_flush_that_fails_makes_nothing_sure(self):
        for word in (FAIL, TAKEN):
            script = [[1, word], [2, word], [3, OFF, 0, 0]]
            found = run([16], script, begin(16, [0]), put_slot(0, [1]), flush(), begin(16, [0]), slots(0),
                        begin(16, [0]), slots(0))
            self.assertEqual(found[2:], [[0], [0], POWER_WENT, [0], [1, 0, 0]])


class Missing(unittest.TestCase):
    def test_a_block_that_a_device_has_not(self):
        found = run([3], [], begin(16, [0]), slots(2), slots(3), put_slot(2, [1]), put_slot(3, [1]), slots(2))
        self.assertEqual(found, [[0], [1, 0, 0], [0], [1], [0], [0]])

    def test_a_device_without_blocks_can_be_flushed(self):
        self.assertEqual(run([0], [], begin(16, [0]), slots(0), flush(), put_slot(0, [])), [[0], [0], [1], [0]])

    def test_a_device_that_there_is_not(self):
        self.assertEqual(run([16], [], begin(16, [1]), slots(0), flush()), [[0], [0], [0]])
        self.assertEqual(run([], [], begin(16, [7]), put_slot(0, [1])), [[0], [0]])

    def test_eight_devices_of_as_many_blocks_as_told(self):
        sizes = [4096, 0, 1, 2, 3, 4, 5, 6]
        mirrors = [[d] for d in range(8)]
        self.assertEqual(run(sizes, [], begin(16, *mirrors), slots(3)),
                         [[0], [4, 0, 0, 5, 0, 6, 0, 7, 0]])


if __name__ == "__main__":
    unittest.main()
