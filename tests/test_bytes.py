"""The ground's bytes, those in no block too: seen on the object itself, since read tells a block's alone."""

import unittest

from lentground.keeper import Ground

from helper import (begin, call_on, enter, give, ground_with, keep, leave, next_from, pack, resize, size, take, write,
                    zero)


class Bytes(unittest.TestCase):
    def test_new_ground_is_all_0(self):
        ground = Ground()
        self.assertEqual(ground.store, [0] * 64)
        ground = ground_with(begin(10))
        call_on(ground, begin(12))
        self.assertEqual(ground.store, [0] * 12)

    def test_take_and_give_change_no_byte(self):
        ground = ground_with(begin(30))
        before = list(ground.store)
        for call in (take(4), take(0), take(3, 8), give(0), take(6), give(8)):
            self.assertGreaterEqual(call_on(ground, call)[0], 0)
            self.assertEqual(ground.store, before)

    def test_zero_changes_its_own_bytes_alone(self):
        ground = ground_with(begin(30), take(5))
        expected = list(ground.store)
        self.assertEqual(call_on(ground, zero(4, 8)), [8])
        expected[8:12] = [0] * 4
        self.assertEqual(ground.store, expected)

    def test_zero_at_place_0_and_up_to_the_end(self):
        ground = ground_with(begin(30))
        expected = list(ground.store)
        self.assertEqual(call_on(ground, zero(7)), [0])
        expected[0:7] = [0] * 7
        self.assertEqual(ground.store, expected)
        self.assertEqual(call_on(ground, zero(23)), [7])
        self.assertEqual(ground.store, [0] * 30)

    def test_zero_of_no_bytes_changes_none(self):
        ground = ground_with(begin(30))
        before = list(ground.store)
        self.assertEqual(call_on(ground, zero(0)), [0])
        self.assertEqual(ground.store, before)

    def test_resize_in_its_place_changes_no_byte(self):
        for n in (0, 1, 4, 5, 9, 25):
            ground = ground_with(begin(30), take(5), take(5), give(0))
            before = list(ground.store)
            self.assertEqual(call_on(ground, resize(5, n)), [5])
            self.assertEqual(ground.store, before)

    def test_resize_moved_takes_its_bytes_along_and_changes_no_other(self):
        ground = ground_with(begin(30), take(5), take(5))
        expected = list(ground.store)
        self.assertEqual(call_on(ground, resize(0, 9)), [10])
        expected[10:15] = expected[0:5]
        self.assertEqual(ground.store, expected)

    def test_resize_moved_down_over_its_old_place(self):
        ground = ground_with(begin(14), take(2), take(6), take(6), give(0))
        expected = list(ground.store)
        self.assertEqual(call_on(ground, resize(2, 8)), [0])
        expected[0:6] = expected[2:8]
        self.assertEqual(ground.store, expected)

    def test_resize_moved_down_by_one_place(self):
        ground = ground_with(begin(14, 1), take(4), take(6))
        expected = list(ground.store)
        self.assertEqual(call_on(ground, resize(4, 7)), [3])
        expected[3:9] = expected[4:10]
        self.assertEqual(ground.store, expected)

    def test_resize_moved_to_the_mark_over_its_old_place(self):
        line = (begin(20, 4), take(3), take(3), take(6), take(8), give(3), resize(0, 3), give(0))
        ground = ground_with(*line)
        expected = list(ground.store)
        self.assertEqual(call_on(ground, resize(6, 9)), [3])
        expected[3:9] = expected[6:12]
        self.assertEqual(ground.store, expected)

    def test_resize_goes_round_over_its_old_place(self):
        line = (begin(12, 4), take(2), take(5), take(2), take(3), give(0), give(7), resize(2, 3))
        ground = ground_with(*line)
        expected = list(ground.store)
        self.assertEqual(call_on(ground, resize(2, 8)), [0])
        expected[0:3] = expected[2:5]
        self.assertEqual(ground.store, expected)


    def test_write_changes_its_bytes_alone(self):
        for i, new_bytes in ((0, [0]), (0, [255, 0, 255, 0, 255]), (2, [0, 255]), (4, [0]), (5, []), (0, [])):
            ground = ground_with(begin(30), take(3), take(5), take(4))
            expected = list(ground.store)
            self.assertEqual(call_on(ground, write(3, i, new_bytes)), [0])
            expected[3 + i:3 + i + len(new_bytes)] = new_bytes
            self.assertEqual(ground.store, expected)

    def test_leave_and_keep_change_no_byte(self):
        ground = ground_with(begin(30), take(3), enter(), take(5), take(4), take(2))
        before = list(ground.store)
        for call in (keep(3), leave(), enter(), leave()):
            self.assertGreaterEqual(call_on(ground, call)[0], 0)
            self.assertEqual(ground.store, before)

    def test_pack_changes_no_byte_of_another_place(self):
        ground = ground_with(begin(30), take(3), take(5), take(4), take(2), give(0), give(8))
        expected = list(ground.store)
        self.assertEqual(call_on(ground, pack()), [2, 0, 5])
        expected[0:5] = expected[3:8]
        expected[5:7] = expected[12:14]
        self.assertEqual(ground.store, expected)

    def test_pack_down_by_one_place(self):
        ground = ground_with(begin(30), take(1), take(20), take(0), take(5), give(0))
        expected = list(ground.store)
        self.assertEqual(call_on(ground, pack()), [3, 0, 20, 21])
        expected[0:20] = expected[1:21]
        expected[21:26] = expected[22:27]
        self.assertEqual(ground.store, expected)

    def test_pack_of_blocks_of_no_bytes_changes_none(self):
        ground = ground_with(begin(30), take(3), take(0), take(0, 8), give(0))
        before = list(ground.store)
        self.assertEqual(call_on(ground, pack()), [2, 0, 8])
        self.assertEqual(ground.store, before)
        self.assertEqual(call_on(ground, pack()), [2, 0, 8])
        self.assertEqual(ground.store, before)


class MarkAndGroup(unittest.TestCase):
    def test_mark_is_kept_under_all_rules(self):
        for rule in range(5):
            ground = ground_with(begin(40, rule))
            self.assertEqual(ground.mark, 0)
            for call in (take(4), zero(3, 4), take(0), zero(0)):
                address = call_on(ground, call)[0]
                self.assertEqual(ground.mark, address + max(call[1], 1))
            for n in (9, 5, 0, 7):
                address = call_on(ground, next_from(0))[0]
                moved = call_on(ground, resize(address, n))[0]
                self.assertEqual(ground.mark, moved + max(n, 1))
            before = ground.mark
            call_on(ground, give(moved))
            self.assertEqual(ground.mark, before)

    def test_a_block_is_of_the_innermost_group_and_resize_keeps_it(self):
        ground = ground_with(begin(40), take(4), enter(), enter(), take(4))
        self.assertEqual(call_on(ground, size(4)), [4, 1, 2])
        self.assertEqual(call_on(ground, resize(0, 9)), [8])
        self.assertEqual(call_on(ground, size(8)), [9, 1, 0])
        self.assertEqual(call_on(ground, keep(4)), [1])
        self.assertEqual(call_on(ground, resize(4, 2)), [4])
        self.assertEqual(call_on(ground, size(4)), [2, 1, 1])


if __name__ == "__main__":
    unittest.main()
