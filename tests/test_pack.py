import unittest

from helper import (ask, begin, blocks, counts, enter, give, keep, last, most, of, pack, read, resize, rows, size, take,
                    write)


class Pack(unittest.TestCase):
    def test_no_blocks(self):
        self.assertEqual(ask(pack(), rows(), counts()), [[0], [1, 0, 64], [0, 0, 0, 0, 0]])
        self.assertEqual(ask(take(3), give(0), pack(), counts())[-2:], [[0], [0, 0, 0, 0, 3]])

    def test_one(self):
        self.assertEqual(ask(begin(20, 1), take(4), pack(), blocks(), rows(), counts())[1:],
                         [[16], [1, 0], [1, 0, 4, 1, 0], [1, 4, 16], [1, 4, 0, 1, 20]])
        self.assertEqual(ask(begin(200), take(1), take(4, 128), give(0), pack(), blocks())[-2:],
                         [[1, 0], [1, 0, 4, 128, 0]])

    def test_one_after_the_other_in_their_order(self):
        line = (begin(60), take(5), take(3), take(7), take(2), take(9), give(0), give(8), give(17))
        self.assertEqual(ask(*line, pack(), rows())[-2:], [[2, 0, 3], [1, 5, 55]])
        line = (begin(20, 1), take(3), take(5), take(2))
        self.assertEqual(ask(*line, pack(), blocks())[-2:], [[3, 0, 2, 7], [3, 0, 2, 1, 0, 2, 5, 1, 0, 7, 3, 1, 0]])

    def test_different_alignments(self):
        line = (begin(200), take(50), take(3, 2), take(5, 8), take(1), take(2, 64), take(4, 4), give(0))
        self.assertEqual(last(*line, blocks()),
                         [5, 50, 3, 2, 0, 53, 1, 1, 0, 56, 5, 8, 0, 64, 2, 64, 0, 68, 4, 4, 0])
        self.assertEqual(ask(*line, pack(), rows())[-2:], [[5, 0, 3, 8, 64, 68], [4, 4, 4, 13, 51, 66, 2, 72, 128]])
        self.assertEqual(ask(*line, give(64), pack(), rows())[-2:], [[4, 0, 3, 8, 16], [3, 4, 4, 13, 3, 20, 180]])

    def test_lies_at_a_multiple_that_is_just_the_place_behind(self):
        line = (begin(100), take(16), take(8), take(3, 8), give(0))
        self.assertEqual(last(*line, pack()), [2, 0, 8])
        line = (begin(100), take(16), take(9), take(3, 8), give(0))
        self.assertEqual(last(*line, pack()), [2, 0, 16])

    def test_new_places_that_meet_the_old_ones(self):
        first = list(range(1, 11))
        second = list(range(101, 109))
        line = (begin(30), take(1), take(10), take(1), take(8), take(2), give(0), give(11),
                write(1, 0, first), write(12, 0, second), write(20, 0, [254, 255]))
        self.assertEqual(ask(*line, pack(), read(0, 0, 10), read(10, 0, 8), read(18, 0, 2))[-4:],
                         [[3, 0, 10, 18], [10] + first, [8] + second, [2, 254, 255]])

    def test_a_block_comes_to_lie_over_the_old_place_of_the_one_before(self):
        line = (begin(30), take(6), take(6), take(6), give(0), write(6, 0, [1] * 6), write(12, 0, [2] * 6))
        self.assertEqual(ask(*line, pack(), read(0, 0, 6), read(6, 0, 6))[-3:],
                         [[2, 0, 6], [6] + [1] * 6, [6] + [2] * 6])

    def test_blocks_of_0_bytes(self):
        line = (begin(9), take(3), take(0), take(0), take(2), take(0, 8), give(0))
        self.assertEqual(ask(*line, pack(), rows(), blocks(), of(0), of(1), of(2), of(4))[-7:],
                         [[4, 0, 1, 2, 8], [1, 4, 4], [4, 0, 0, 1, 0, 1, 0, 1, 0, 2, 2, 1, 0, 8, 0, 8, 0],
                          [0], [1], [2], [-4]])

    def test_blocks_as_low_as_may_be_stay(self):
        line = (begin(40), take(3), take(0), take(5, 8), take(2), write(8, 0, [1, 2, 3, 4, 5]))
        before = ask(*line, rows(), blocks(), counts())[-3:]
        self.assertEqual(ask(*line, rows(), pack(), rows())[-3:], [[2, 6, 2, 13, 27], [4, 0, 3, 4, 8],
                                                                  [2, 6, 2, 13, 27]])
        self.assertEqual(ask(*line, pack(), rows(), blocks(), counts())[-3:], before)
        self.assertEqual(ask(*line, pack(), pack(), rows(), blocks(), counts())[-3:], before)
        self.assertEqual(last(*line, pack(), read(8, 0, 5)), [5, 1, 2, 3, 4, 5])

    def test_the_order_of_addresses_counts_not_that_of_taking(self):
        line = (begin(40), take(10), take(10), give(0), take(2), give(10), take(3), resize(0, 2))
        self.assertEqual(ask(*line, give(0), take(1), pack(), blocks())[-2:], [[2, 0, 1], [2, 0, 1, 1, 0, 1, 3, 1, 0]])

    def test_a_full_ground(self):
        self.assertEqual(ask(begin(6), take(1), take(2), take(3), pack(), rows())[-2:], [[3, 0, 1, 3], [0]])

    def test_no_byte_of_another_place_is_changed(self):
        # All places written and given back, then two blocks in the midst; what's free is looked at behind the pack.
        line = (begin(12), take(12), write(0, 0, list(range(1, 13))), give(0), take(3), take(2), take(2), take(3),
                give(0), give(5), pack())
        self.assertEqual(ask(*line, rows(), take(7), read(5, 0, 7), read(0, 0, 2), read(2, 0, 3))[-6:],
                         [[2, 0, 2], [1, 5, 7], [5], [7, 6, 7, 8, 9, 10, 11, 12], [2, 4, 5], [3, 8, 9, 10]])

    def test_the_mark_stays(self):
        for rule in range(5):
            line = (begin(40, rule), take(5), take(6), take(7))
            address = last(*line)[0]
            self.assertEqual(last(*line, pack(), counts())[4], address + 7)
            lowest = last(*line, blocks())[1]
            self.assertEqual(last(*line, give(lowest), pack(), counts())[4], address + 7)

    def test_what_is_free_is_told_and_taken_behind_it(self):
        line = (begin(20), take(4), take(4), take(4), take(4), take(4), give(0), give(8), give(16))
        self.assertEqual(ask(*line, most(), take(12))[-2:], [[4], [-3]])
        self.assertEqual(ask(*line, pack(), most(), take(12), size(0), size(4), size(8))[-5:],
                         [[12], [8], [4, 1, 0], [4, 1, 0], [12, 1, 0]])

    def test_groups_go_along(self):
        line = (begin(40), take(4), enter(), take(4, 2), enter(), take(3), take(1), keep(11), give(0), pack())
        self.assertEqual(ask(*line, blocks())[-2:], [[3, 0, 4, 7], [3, 0, 4, 2, 1, 4, 3, 1, 2, 7, 1, 1, 1]])

    def test_many_blocks(self):
        line = [begin(2048)] + [take(3, 4)] * 190 + [give(8 * i) for i in range(95)]
        self.assertEqual(last(*line, pack()), [95] + [4 * i for i in range(95)])
        line = [begin(2048)] + [take(3)] * 190 + [give(6 * i) for i in range(95)]
        self.assertEqual(ask(*line, pack(), rows())[-2:], [[95] + [3 * i for i in range(95)], [1, 285, 1763]])


if __name__ == "__main__":
    unittest.main()
