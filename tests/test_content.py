"""write and read."""

import unittest

from lentground.ground import answers

from helper import (LARGEST, ask, begin, counts, enter, give, keep, last, leave, pack, read, resize, rows, take, walk,
                    step, write, zero)

# A block of 5 bytes at 3, between two others.
THREE = (begin(30), take(3), take(5), take(4))
FIVE = [11, 22, 33, 44, 55]


class WriteAndRead(unittest.TestCase):
    def test_a_new_ground_is_all_0(self):
        self.assertEqual(last(take(64), read(0, 0, 64)), [64] + [0] * 64)
        self.assertEqual(last(begin(2048), take(2048), read(0, 0, 2048)), [2048] + [0] * 2048)

    def test_at_0_in_the_midst_and_up_to_the_last_byte(self):
        line = (*THREE, write(3, 0, FIVE))
        self.assertEqual(last(*line), [0])
        for i in range(6):
            for k in range(6 - i):
                self.assertEqual(last(*line, read(3, i, k)), [k] + FIVE[i:i + k])
                new_bytes = [255, 0, 254, 1, 253][:k]
                expected = FIVE[:i] + new_bytes + FIVE[i + k:]
                self.assertEqual(ask(*line, write(3, i, new_bytes), read(3, 0, 5))[-2:], [[0], [5] + expected])

    def test_one_byte_too_far(self):
        for i in range(6):
            self.assertEqual(ask(*THREE, write(3, 0, FIVE), write(3, i, [9] * (6 - i)), read(3, 0, 5),
                                 read(0, 0, 3), read(8, 0, 4))[-4:],
                             [[-1], [5] + FIVE, [3, 0, 0, 0], [4, 0, 0, 0, 0]])
            self.assertEqual(last(*THREE, read(3, i, 6 - i)), [-1])

    def test_the_ground_beyond_does_not_count(self):
        self.assertEqual(last(begin(30), take(3), read(0, 0, 4)), [-1])
        self.assertEqual(last(begin(3), take(3), read(0, 0, 4)), [-1])
        self.assertEqual(last(begin(3), take(3), read(0, 0, 3)), [3, 0, 0, 0])

    def test_block_of_0_bytes(self):
        line = (begin(9), take(0), take(4))
        self.assertEqual(ask(*line, write(0, 0, []), read(0, 0, 0))[-2:], [[0], [0]])
        self.assertEqual(ask(*line, write(0, 0, [7]), read(0, 0, 1), read(0, 1, 1), write(0, 1, [7]))[-4:],
                         [[-1], [-1], [-1], [-1]])
        # The place in its reach is no byte of it: a block that's laid there later finds it 0.
        self.assertEqual(last(*line, write(0, 0, [7]), resize(0, 1), read(0, 0, 1)), [1, 0])

    def test_no_bytes_at_any_i_up_to_the_end(self):
        for i in range(6):
            self.assertEqual(ask(*THREE, write(3, i, []), read(3, i, 0))[-2:], [[0], [0]])

    def test_no_bytes_beyond_the_end(self):
        for i in (6, 30, LARGEST):
            self.assertEqual(ask(*THREE, write(3, i, []), read(3, i, 0))[-2:], [[-1], [-1]])

    def test_largest_numbers(self):
        for i in (0, 1, 4, 5, LARGEST - 1, LARGEST):
            self.assertEqual(last(*THREE, read(3, i, LARGEST)), [-1])
        for k in (1, 5, LARGEST):
            self.assertEqual(last(*THREE, read(3, LARGEST, k)), [-1])
        self.assertEqual(ask(*THREE, write(3, LARGEST, [1]), write(3, LARGEST, FIVE))[-2:], [[-1], [-1]])

    def test_no_block_there_counts_first(self):
        for b in (1, 2, 4, 7, 9, 12, 29, 30, LARGEST):
            self.assertEqual(ask(*THREE, write(b, 0, []), write(b, 0, [1]), write(b, LARGEST, [1] * 40), read(b, 0, 0),
                                 read(b, 0, 1), read(b, LARGEST, LARGEST))[-6:], [[-2]] * 6)
        self.assertEqual(ask(write(0, 0, [1]), read(0, 0, 1)), [[-2], [-2]])
        self.assertEqual(ask(*THREE, give(3), write(3, 0, [1]), read(3, 0, 1))[-2:], [[-2], [-2]])

    def test_bytes_0_and_255(self):
        self.assertEqual(last(take(4), write(0, 0, [255, 0, 255, 0]), read(0, 0, 4)), [4, 255, 0, 255, 0])
        every = list(range(256))
        self.assertEqual(last(begin(300), take(256), write(0, 0, every), read(0, 0, 256)), [256] + every)

    def test_the_longest_lists(self):
        whole = [place % 251 for place in range(2048)]
        self.assertEqual(ask(begin(2048), take(2048), write(0, 0, whole), read(0, 0, 2048), write(0, 1, whole),
                             write(0, 0, [9] * 2049), write(0, 0, [9] * 4000), read(0, 0, 2048))[2:],
                         [[0], [2048] + whole, [-1], [-1], [-1], [2048] + whole])

    def test_a_list_of_0_numbers_between_other_calls(self):
        self.assertEqual(answers([2, 3, 1, 15, 0, 0, 0, 15, 0, 0, 0, 15, 0, 1, 2, 20, 14, 15, 0, 3, 0, 16, 0, 0, 3]),
                         [1, 0, 1, 0, 1, 0, 1, 0, 1, 0, 4, 3, 0, 20, 14])

    def test_a_list_is_passed_over_behind_a_refusal(self):
        self.assertEqual(ask(write(0, 0, [11, 12, 5, 1]), take(2), write(0, 0, [17, 17, 17]), counts()),
                         [[-2], [0], [-1], [1, 2, 0, 1, 2]])

    def test_k_of_read_is_no_lists_length(self):
        self.assertEqual(ask(take(3), read(0, 0, 2), read(0, 1, 2), rows()), [[0], [2, 0, 0], [2, 0, 0], [1, 3, 61]])


class WrittenIsReadAgain(unittest.TestCase):
    def check(self, *calls, at=3):
        self.assertEqual(last(*THREE, write(3, 0, FIVE), *calls, read(at, 0, 5)), [5] + FIVE, calls)

    def test_behind_calls_on_others(self):
        self.check(take(5))
        self.check(zero(5), zero(0), zero(9))
        self.check(give(0), zero(3))
        self.check(give(8), zero(4))
        self.check(write(0, 0, [9] * 3), write(8, 0, [9] * 4))
        self.check(resize(0, 9), resize(8, 18))
        self.check(enter(), zero(3), leave())
        self.check(walk(), step(), step())
        self.check(begin(0))

    def test_behind_resize_in_its_place(self):
        self.check(give(8), resize(3, 9))
        self.check(give(8), resize(3, 27))
        self.assertEqual(last(*THREE, write(3, 0, FIVE), resize(3, 2), read(3, 0, 2)), [2, 11, 22])

    def test_behind_resize_that_moves(self):
        self.check(resize(3, 6), at=12)
        self.check(resize(3, 6), zero(5), resize(12, 18), at=12)

    def test_behind_resize_over_its_old_place(self):
        self.check(give(0), resize(3, 8), at=0)
        self.check(give(0), take(2), resize(3, 6), at=2)
        line = (begin(20, 1), take(4), take(10), write(6, 0, list(range(1, 11))))
        self.assertEqual(ask(*line, resize(6, 11), read(5, 0, 10))[-2:], [[5], [10, *range(1, 11)]])

    def test_behind_leave_and_keep(self):
        self.check(enter(), take(9), leave())
        line = (enter(), take(5), write(0, 0, FIVE), keep(0), take(5), write(5, 0, [9] * 5))
        self.assertEqual(last(*line, leave(), zero(5), read(0, 0, 5)), [5] + FIVE)

    def test_behind_pack(self):
        self.check(pack())
        self.check(give(0), pack(), at=0)
        self.check(give(0), take(1), pack(), at=1)
        self.check(resize(3, 6), give(8), pack(), at=3)

    def test_behind_a_refused_write(self):
        self.check(write(3, 1, FIVE), write(3, 0, [9] * 6), write(4, 0, [9]))

    def test_behind_refused_calls(self):
        self.check(resize(3, 31), zero(31), zero(1, 3), give(4), begin(2049))


class TakeAndZero(unittest.TestCase):
    def test_take_leaves_what_stands_there(self):
        self.assertEqual(last(*THREE, write(3, 0, FIVE), give(3), take(5), read(3, 0, 5)), [5] + FIVE)
        self.assertEqual(last(*THREE, write(3, 0, FIVE), give(3), take(2), read(3, 0, 2)), [2, 11, 22])
        self.assertEqual(last(enter(), take(5), write(0, 0, FIVE), leave(), take(5), read(0, 0, 5)), [5] + FIVE)

    def test_zero_makes_its_bytes_0(self):
        self.assertEqual(last(*THREE, write(3, 0, FIVE), give(3), zero(5), read(3, 0, 5)), [5, 0, 0, 0, 0, 0])
        self.assertEqual(last(*THREE, write(3, 0, FIVE), give(3), zero(2), take(3), read(5, 0, 3)), [3, 33, 44, 55])
        self.assertEqual(last(*THREE, write(3, 0, FIVE), give(3), zero(0), take(4), read(4, 0, 4)), [4, *FIVE[1:]])
        self.assertEqual(last(*THREE, write(3, 0, FIVE), give(3), zero(0), resize(3, 5), read(3, 0, 5)), [5] + FIVE)

    def test_a_grown_block_has_what_stands_there(self):
        line = (*THREE, write(3, 0, FIVE), resize(3, 2))
        self.assertEqual(last(*line, resize(3, 5), read(3, 0, 5)), [5] + FIVE)
        self.assertEqual(last(*line, zero(3), give(5), resize(3, 5), read(3, 0, 5)), [5, 11, 22, 0, 0, 0])

    def test_a_moved_block_leaves_its_old_bytes_standing(self):
        self.assertEqual(ask(*THREE, write(3, 0, FIVE), resize(3, 7), take(5), read(3, 0, 5))[-3:],
                         [[12], [3], [5] + FIVE])

    def test_a_refused_zero_changes_no_byte(self):
        line = (*THREE, write(3, 0, FIVE), give(3), zero(19), zero(5, 3))
        self.assertEqual(ask(*line, take(5), read(3, 0, 5))[-4:], [[-3], [-1], [3], [5] + FIVE])

    def test_open_makes_all_0(self):
        self.assertEqual(last(*THREE, write(3, 0, FIVE), begin(30), take(30), read(0, 0, 30)), [30] + [0] * 30)


if __name__ == "__main__":
    unittest.main()
