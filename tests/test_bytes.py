"""The ground's bytes: seen on the object itself, since no call of the first ten tells them."""

import unittest

from lentground.calls import answer_call
from lentground.keeper import Ground

from helper import begin, give, most, next_from, of, resize, rows, size, take, zero


def ground_with(*calls):
    """A ground behind the calls, each of its bytes another number than its neighbours'."""
    ground = Ground()
    for call in calls:
        answer_call(ground, call[0], call[1:])
    ground.store = [1 + place % 250 for place in range(ground.size)]
    return ground


def call_on(ground, call):
    return answer_call(ground, call[0], call[1:])


def whole(ground):
    """All that a ground holds, as values of its own."""
    blocks = [(key, vars(block).copy()) for key, block in sorted(ground.blocks.items())]
    others = {name: value for name, value in vars(ground).items() if name not in ("blocks", "store")}
    return others, list(ground.store), blocks


class Bytes(unittest.TestCase):
    def test_new_ground_is_all_0(self):
        ground = Ground()
        self.assertEqual(ground.store, [0] * 64)
        ground = ground_with(begin(10))
        call_on(ground, begin(12))
        self.assertEqual(ground.store, [0] * 12)

    def test_take_and_give_change_no_byte(self):
        ground = ground_with(begin(30))
        before = list(ground.store)
        for call in (take(4), take(0), take(3, 8), give(0), take(6), give(8)):
            self.assertGreaterEqual(call_on(ground, call)[0], 0)
            self.assertEqual(ground.store, before)

    def test_zero_changes_its_own_bytes_alone(self):
        ground = ground_with(begin(30), take(5))
        expected = list(ground.store)
        self.assertEqual(call_on(ground, zero(4, 8)), [8])
        expected[8:12] = [0] * 4
        self.assertEqual(ground.store, expected)

    def test_zero_at_place_0_and_up_to_the_end(self):
        ground = ground_with(begin(30))
        expected = list(ground.store)
        self.assertEqual(call_on(ground, zero(7)), [0])
        expected[0:7] = [0] * 7
        self.assertEqual(ground.store, expected)
        self.assertEqual(call_on(ground, zero(23)), [7])
        self.assertEqual(ground.store, [0] * 30)

    def test_zero_of_no_bytes_changes_none(self):
        ground = ground_with(begin(30))
        before = list(ground.store)
        self.assertEqual(call_on(ground, zero(0)), [0])
        self.assertEqual(ground.store, before)

    def test_resize_in_its_place_changes_no_byte(self):
        for n in (0, 1, 4, 5, 9, 25):
            ground = ground_with(begin(30), take(5), take(5), give(0))
            before = list(ground.store)
            self.assertEqual(call_on(ground, resize(5, n)), [5])
            self.assertEqual(ground.store, before)

    def test_resize_moved_takes_its_bytes_along_and_changes_no_other(self):
        ground = ground_with(begin(30), take(5), take(5))
        expected = list(ground.store)
        self.assertEqual(call_on(ground, resize(0, 9)), [10])
        expected[10:15] = expected[0:5]
        self.assertEqual(ground.store, expected)

    def test_resize_moved_down_over_its_old_place(self):
        ground = ground_with(begin(14), take(2), take(6), take(6), give(0))
        expected = list(ground.store)
        self.assertEqual(call_on(ground, resize(2, 8)), [0])
        expected[0:6] = expected[2:8]
        self.assertEqual(ground.store, expected)

    def test_resize_moved_down_by_one_place(self):
        ground = ground_with(begin(14, 1), take(4), take(6))
        expected = list(ground.store)
        self.assertEqual(call_on(ground, resize(4, 7)), [3])
        expected[3:9] = expected[4:10]
        self.assertEqual(ground.store, expected)

    def test_resize_moved_to_the_mark_over_its_old_place(self):
        line = (begin(20, 4), take(3), take(3), take(6), take(8), give(3), resize(0, 3), give(0))
        ground = ground_with(*line)
        expected = list(ground.store)
        self.assertEqual(call_on(ground, resize(6, 9)), [3])
        expected[3:9] = expected[6:12]
        self.assertEqual(ground.store, expected)

    def test_resize_goes_round_over_its_old_place(self):
        line = (begin(12, 4), take(2), take(5), take(2), take(3), give(0), give(7), resize(2, 3))
        ground = ground_with(*line)
        expected = list(ground.store)
        self.assertEqual(call_on(ground, resize(2, 8)), [0])
        expected[0:3] = expected[2:5]
        self.assertEqual(ground.store, expected)


class Refusals(unittest.TestCase):
    LINE = (begin(40, 4), take(4), take(0), take(8, 8), take(6), give(4), resize(0, 5))

    def test_refusals_leave_the_whole_object_as_it_was(self):
        refused = ((begin(0), -1), (begin(2049), -1), (begin(9, 5), -1), (take(1, 3), -1), (take(41), -3),
                   (zero(1, 0), -1), (zero(41), -3), (zero(2 ** 64 - 1), -3), (resize(1, 2), -2),
                   (resize(8, 41), -3), (resize(0, 2 ** 64 - 1), -3), (give(4), -2), (size(9), -2), (of(5), -4),
                   (next_from(17), -4), (most(12), -1))
        for call, number in refused:
            ground = ground_with(*self.LINE)
            before = whole(ground)
            self.assertEqual(call_on(ground, call), [number], call)
            self.assertEqual(whole(ground), before, call)

    def test_a_full_ground_is_left_as_it_was(self):
        for call in (take(0), zero(0), most(), most(256), resize(0, 41)):
            ground = ground_with(begin(40), take(40))
            before = whole(ground)
            self.assertEqual(call_on(ground, call), [-3])
            self.assertEqual(whole(ground), before)

    def test_what_only_asks_changes_nothing(self):
        for call in (size(0), size(8), of(3), next_from(3), most(), most(8), rows()):
            ground = ground_with(*self.LINE)
            before = whole(ground)
            self.assertGreaterEqual(call_on(ground, call)[0], 0)
            self.assertEqual(whole(ground), before)


class MarkAndGroup(unittest.TestCase):
    def test_mark_is_kept_under_all_rules(self):
        for rule in range(5):
            ground = ground_with(begin(40, rule))
            self.assertEqual(ground.mark, 0)
            for call in (take(4), zero(3, 4), take(0), zero(0)):
                address = call_on(ground, call)[0]
                self.assertEqual(ground.mark, address + max(call[1], 1))
            for n in (9, 5, 0, 7):
                address = call_on(ground, next_from(0))[0]
                moved = call_on(ground, resize(address, n))[0]
                self.assertEqual(ground.mark, moved + max(n, 1))
            before = ground.mark
            call_on(ground, give(moved))
            self.assertEqual(ground.mark, before)

    def test_a_block_is_of_the_innermost_group_and_resize_keeps_it(self):
        ground = ground_with(begin(40))
        self.assertEqual(ground.depth, 0)
        call_on(ground, take(4))
        ground.depth = 2
        call_on(ground, take(4))
        self.assertEqual(call_on(ground, size(4)), [4, 1, 2])
        self.assertEqual(call_on(ground, resize(0, 9)), [8])
        self.assertEqual(call_on(ground, size(8)), [9, 1, 0])
        ground.depth = 1
        self.assertEqual(call_on(ground, resize(4, 2)), [4])
        self.assertEqual(call_on(ground, size(4)), [2, 1, 2])
        call_on(ground, begin(40))
        self.assertEqual(ground.depth, 0)


if __name__ == "__main__":
    unittest.main()
