"""What's refused and what only asks: the whole object is as it was."""

import unittest

from helper import (LARGEST, begin, blocks, call_on, counts, enter, give, ground_with, keep, leave, most, next_from, of,
                    read, resize, rows, size, step, take, walk, whole, write, zero)

# Blocks at 0 (5 bytes, group 0), 8 (8 bytes, group 0), 16 (6 bytes, group 1); walks 0 and 2 are under way.
LINE = (begin(40, 4), take(4), take(0), take(8, 8), enter(), take(6), give(4), resize(0, 5),
        walk(3), walk(LARGEST), walk(), step(1))

REFUSED = (
    (begin(0), -1), (begin(2049), -1), (begin(9, 5), -1),
    (take(1, 3), -1), (take(41), -3),
    (zero(1, 0), -1), (zero(41), -3), (zero(LARGEST), -3),
    (resize(1, 2), -2), (resize(8, 41), -3), (resize(0, LARGEST), -3),
    (give(4), -2), (size(9), -2), (of(5), -4), (next_from(17), -4), (most(12), -1),
    (keep(4), -2), (keep(LARGEST), -2), (keep(0), -4), (keep(8), -4),
    (write(4, 0, []), -2), (write(1, 0, [9]), -2), (write(LARGEST, LARGEST, [9, 9]), -2),
    (write(0, 0, [9] * 6), -1), (write(0, 5, [9]), -1), (write(0, 3, [9, 9, 9]), -1), (write(0, LARGEST, [9]), -1),
    (write(0, 0, [9] * 4000), -1),
    (read(4, 0, 0), -2), (read(40, LARGEST, LARGEST), -2),
    (read(0, 0, 6), -1), (read(0, 5, 1), -1), (read(0, LARGEST, LARGEST), -1),
    (step(1), -1), (step(3), -1), (step(4), -1), (step(LARGEST), -1),
)

ASKED = (size(0), size(8), of(3), next_from(3), most(), most(8), rows(), counts(), read(0, 0, 5), read(8, 3, 2),
         read(16, 6, 0), blocks())


class Refusals(unittest.TestCase):
    def compare(self, line, call, number):
        ground = ground_with(*line)
        before = whole(ground)
        self.assertEqual(call_on(ground, call), [number], call)
        self.assertEqual(whole(ground), before, call)

    def test_the_line_that_they_stand_behind(self):
        held = whole(ground_with(*LINE))
        self.assertEqual(sorted(held["blocks"]), [0, 8, 16])
        self.assertEqual(held["walks"], {0: 3, 2: 0})

    def test_refusals_leave_the_whole_object_as_it_was(self):
        for call, number in REFUSED:
            self.compare(LINE, call, number)

    def test_a_full_ground_is_left_as_it_was(self):
        for call in (take(0), zero(0), most(), most(256), resize(0, 41)):
            self.compare((begin(40), take(40)), call, -3)

    def test_enter_leave_walk_at_their_ends(self):
        self.compare((*LINE, *[enter()] * 7), enter(), -3)
        self.compare((*LINE, leave()), leave(), -4)
        self.compare((*LINE, walk(), walk()), walk(5), -3)

    def test_an_ended_walk_changes_just_that(self):
        ground = ground_with(*LINE, walk(LARGEST))
        before = whole(ground)
        self.assertEqual(call_on(ground, step(1)), [-4])
        self.assertEqual(before["walks"].pop(1), LARGEST)
        self.assertEqual(whole(ground), before)

    def test_what_only_asks_changes_nothing(self):
        for call in ASKED:
            ground = ground_with(*LINE)
            before = whole(ground)
            self.assertGreaterEqual(call_on(ground, call)[0], 0)
            self.assertEqual(whole(ground), before)

    def test_an_answer_is_no_part_of_the_object(self):
        for call in ASKED:
            ground = ground_with(*LINE)
            before = whole(ground)
            call_on(ground, call).clear()
            self.assertEqual(whole(ground), before)


if __name__ == "__main__":
    unittest.main()
