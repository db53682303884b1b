import unittest

from helper import LARGEST, ask, begin, give, last, most, next_from, rows, size, take


class Open(unittest.TestCase):
    def test_new_object_is_64_places_rule_0(self):
        self.assertEqual(ask(rows(), most(), next_from(0)), [[1, 0, 64], [64], [-4]])
        self.assertEqual(ask(take(3), take(5), give(0), take(2)), [[0], [3], [0], [0]])

    def test_sizes_at_the_edges(self):
        self.assertEqual(ask(begin(1), rows()), [[0], [1, 0, 1]])
        self.assertEqual(ask(begin(2048), rows()), [[0], [1, 0, 2048]])
        for wrong in (0, 2049, LARGEST):
            self.assertEqual(ask(begin(wrong), rows()), [[-1], [1, 0, 64]])

    def test_rules_at_the_edges(self):
        for rule in range(5):
            self.assertEqual(last(begin(10, rule)), [0])
        for wrong in (5, LARGEST):
            self.assertEqual(ask(begin(10, wrong), rows()), [[-1], [1, 0, 64]])

    def test_refused_open_leaves_all_as_it_was(self):
        for wrong in (begin(0, 1), begin(2049, 1), begin(20, 5), begin(0, 5)):
            self.assertEqual(
                ask(begin(30, 4), take(4), take(6), give(0), wrong, rows(), size(4), take(2)),
                [[0], [0], [4], [0], [-1], [2, 0, 4, 10, 20], [6, 1, 0], [10]])

    def test_open_forgets_blocks_rule_and_mark(self):
        self.assertEqual(
            ask(begin(30, 1), take(4), begin(16, 4), rows(), size(26), take(3), take(3)),
            [[0], [26], [0], [1, 0, 16], [-2], [0], [3]])
        self.assertEqual(ask(begin(30, 4), take(4), begin(30, 4), take(4))[-1], [0])
        self.assertEqual(ask(begin(30, 4), take(4), begin(30, 0), take(1), give(0), take(1))[-1], [0])


if __name__ == "__main__":
    unittest.main()
