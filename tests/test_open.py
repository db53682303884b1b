import unittest

from helper import (LARGEST, ask, begin, blocks, counts, enter, give, last, leave, most, next_from, read, rows, size,
                    step, take, walk, write)


class Open(unittest.TestCase):
    def test_new_object_is_64_places_rule_0(self):
        self.assertEqual(ask(rows(), most(), next_from(0)), [[1, 0, 64], [64], [-4]])
        self.assertEqual(ask(take(3), take(5), give(0), take(2)), [[0], [3], [0], [0]])

    def test_new_object_has_depth_0_no_walks_no_blocks(self):
        self.assertEqual(ask(counts(), blocks(), leave(), step(0), step(3)), [[0, 0, 0, 0, 0], [0], [-4], [-1], [-1]])
        self.assertEqual(ask(take(64), read(0, 0, 64))[-1], [64] + [0] * 64)

    def test_sizes_at_the_edges(self):
        self.assertEqual(ask(begin(1), rows()), [[0], [1, 0, 1]])
        self.assertEqual(ask(begin(2048), rows()), [[0], [1, 0, 2048]])
        for wrong in (0, 2049, LARGEST):
            self.assertEqual(ask(begin(wrong), rows()), [[-1], [1, 0, 64]])

    def test_rules_at_the_edges(self):
        for rule in range(5):
            self.assertEqual(last(begin(10, rule)), [0])
        for wrong in (5, LARGEST):
            self.assertEqual(ask(begin(10, wrong), rows()), [[-1], [1, 0, 64]])

    def test_refused_open_leaves_all_as_it_was(self):
        for wrong in (begin(0, 1), begin(2049, 1), begin(20, 5), begin(0, 5)):
            self.assertEqual(
                ask(begin(30, 4), take(4), take(6), give(0), wrong, rows(), size(4), take(2)),
                [[0], [0], [4], [0], [-1], [2, 0, 4, 10, 20], [6, 1, 0], [10]])

    def test_open_forgets_blocks_rule_and_mark(self):
        self.assertEqual(
            ask(begin(30, 1), take(4), begin(16, 4), rows(), size(26), take(3), take(3)),
            [[0], [26], [0], [1, 0, 16], [-2], [0], [3]])
        self.assertEqual(ask(begin(30, 4), take(4), begin(30, 4), take(4))[-1], [0])
        self.assertEqual(ask(begin(30, 4), take(4), begin(30, 0), take(1), give(0), take(1))[-1], [0])

    def test_behind_open_there_is_that_ground_and_nothing_else(self):
        line = (begin(30, 1), enter(), take(4), enter(), take(30 - 4), write(0, 0, [9] * 26), walk(), walk(5), step())
        behind = (counts(), blocks(), rows(), leave(), step(0), step(1), walk(), take(20), read(0, 0, 20))
        self.assertEqual(ask(*line, begin(20), *behind)[-9:], ask(begin(20), *behind)[-9:])
        self.assertEqual(ask(*line, begin(20), *behind)[-9:],
                         [[0, 0, 0, 0, 0], [0], [1, 0, 20], [-4], [-1], [-1], [0], [0], [20] + [0] * 20])

    def test_refused_open_leaves_groups_walks_and_bytes(self):
        line = (enter(), take(3), write(0, 0, [7, 8, 9]), take(2), walk(), step())
        for wrong in (begin(0), begin(2049, 0), begin(20, 5)):
            self.assertEqual(ask(*line, wrong, counts(), read(0, 0, 3), step(), leave())[6:],
                             [[-1], [2, 5, 1, 2, 5], [3, 7, 8, 9], [3], [2]])


if __name__ == "__main__":
    unittest.main()
