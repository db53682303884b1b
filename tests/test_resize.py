import unittest

from helper import LARGEST, ask, begin, give, last, of, resize, rows, size, take


class Resize(unittest.TestCase):
    def test_fewer_as_many_and_none(self):
        for rule in range(5):
            line = (begin(20, rule), take(20))
            for n in (0, 1, 7, 19, 20):
                self.assertEqual(ask(*line, resize(0, n), size(0))[-2:], [[0], [n, 1, 0]])
            self.assertEqual(ask(*line, resize(0, 6), rows())[-1], [1, 6, 14])
            self.assertEqual(ask(*line, resize(0, 0), rows())[-1], [1, 1, 19])

    def test_none_and_one_byte_have_one_reach(self):
        self.assertEqual(ask(begin(2), take(0), take(0), resize(0, 1), size(0), resize(1, 1), resize(1, 0), rows()),
                         [[0], [0], [1], [0], [1, 1, 0], [1], [1], [0]])

    def test_grows_in_place_up_to_the_next_block(self):
        line = (begin(30, 3), take(4), take(6), take(4), give(4))
        self.assertEqual(ask(*line, resize(0, 10), size(0), rows())[-3:], [[0], [10, 1, 0], [1, 14, 16]])
        self.assertEqual(ask(*line, resize(0, 11), size(14), rows())[-3:], [[14], [11, 1, 0], [2, 0, 10, 25, 5]])

    def test_grows_in_place_up_to_the_grounds_end(self):
        for rule in range(5):
            line = (begin(30, rule), take(30), resize(0, 4), take(26), resize(4, 20))
            self.assertEqual(ask(*line, resize(4, 26), rows())[-2:], [[4], [0]])
            self.assertEqual(ask(*line, resize(4, 27), size(4), rows())[-3:], [[-3], [20, 1, 0], [1, 24, 6]])

    def test_stays_though_the_rule_would_tell_another_place(self):
        self.assertEqual(ask(begin(30, 0), take(5), take(5), give(0), resize(5, 9))[-1], [5])
        self.assertEqual(ask(begin(30, 1), take(9), take(9), take(3), give(21), resize(12, 12))[-1], [12])

    def test_moves_by_each_rule(self):
        # Blocks at 12 (4 bytes) and 22 (2 bytes), rows 0 to 11, 16 to 21, 24 to 35.
        frame = (take(12), take(4), take(6), take(2), take(12), give(0), give(16), give(24), resize(22, 2))
        low = [[0], [2, 11, 11, 24, 12]]
        high = [[24], [2, 0, 22, 35, 1]]
        for rule, expected in ((0, low), (2, high), (3, low), (4, high)):
            self.assertEqual(ask(begin(36, rule), *frame, resize(12, 11), rows())[-2:], expected)

    def test_moves_by_rule_1(self):
        # Blocks at 12 (2 bytes) and 20 (4 bytes), rows 0 to 11, 14 to 19, 24 to 35.
        frame = (begin(36, 1), take(12), take(4), take(6), take(2), take(12), give(24), give(14), give(0))
        self.assertEqual(ask(*frame, resize(20, 17), rows())[-2:], [[19], [2, 0, 12, 14, 5]])
        self.assertEqual(ask(*frame, resize(12, 9), rows())[-2:], [[27], [2, 0, 20, 24, 3]])
        self.assertEqual(ask(*frame, resize(12, 13), rows())[-2:], [[7], [2, 0, 7, 24, 12]])

    def test_moves_to_a_place_that_meets_its_old_one(self):
        # Free but for the block itself: 0 to 9; it must come down to grow.
        line = (begin(14), take(4), take(6), take(4), give(0))
        self.assertEqual(ask(*line, resize(4, 8), rows(), of(7), of(8))[-4:], [[0], [1, 8, 2], [0], [-4]])
        self.assertEqual(ask(*line, resize(4, 10), rows())[-2:], [[0], [0]])
        self.assertEqual(ask(*line, resize(4, 11), rows(), size(4))[-3:], [[-3], [1, 0, 4], [6, 1, 0]])
        self.assertEqual(ask(begin(14, 1), take(4), take(6), take(4), give(0), resize(4, 9))[-1], [1])

    def test_keeps_its_alignment(self):
        line = (begin(64), take(8), take(4, 8), take(4), give(0), take(1))
        self.assertEqual(ask(*line, resize(8, 10), size(8), size(16))[-3:], [[16], [-2], [10, 8, 0]])
        self.assertEqual(ask(*line, resize(8, 3), size(8))[-1], [3, 8, 0])
        line = (begin(20), take(3), take(4, 8), take(8), give(0))
        self.assertEqual(ask(*line, resize(8, 5))[-1], [0])
        self.assertEqual(ask(*line, take(1), resize(8, 5), size(8))[-2:], [[-3], [4, 8, 0]])

    def test_the_old_address_is_free_behind_a_move(self):
        line = (begin(30), take(4), take(4), resize(0, 5))
        self.assertEqual(ask(*line, size(0), of(0), of(8), rows(), take(4))[3:],
                         [[8], [-2], [-4], [8], [2, 0, 4, 13, 17], [0]])

    def test_no_block_there(self):
        line = (begin(30, 4), take(4), take(4), give(4))
        for b in (1, 3, 4, 8, 29, 30, 31, 2048, LARGEST):
            self.assertEqual(ask(*line, resize(b, 2), rows(), take(1))[-3:], [[-2], [1, 4, 26], [8]])

    def test_no_block_counts_before_no_room(self):
        self.assertEqual(last(take(4), resize(1, 65)), [-2])
        self.assertEqual(last(resize(0, LARGEST)), [-2])

    def test_refused_leaves_all_as_it_was(self):
        line = (begin(30, 4), take(4), take(4), take(4), give(0), resize(4, 3))
        for n in (27, 30, 31, LARGEST):
            self.assertEqual(ask(*line, resize(4, n), size(4), rows(), take(1))[-4:],
                             [[-3], [3, 1, 0], [3, 0, 4, 7, 1, 12, 18], [7]])

    def test_a_lone_block_grows_to_the_whole_ground(self):
        for rule in range(5):
            self.assertEqual(ask(begin(30, rule), take(30), resize(0, 2), resize(0, 30), rows())[-2:], [[0], [0]])
            self.assertEqual(ask(begin(30, rule), take(30), resize(0, 2), resize(0, 31))[-1], [-3])
        self.assertEqual(ask(begin(30, 1), take(2), resize(28, 30), rows())[-2:], [[0], [0]])


if __name__ == "__main__":
    unittest.main()
