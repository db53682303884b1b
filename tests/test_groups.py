"""enter, leave, keep, counts."""

import unittest

from helper import (LARGEST, ask, begin, blocks, counts, enter, give, keep, last, leave, most, next_from, of, pack,
                    read, resize, rows, size, step, take, walk, write, zero)


class Enter(unittest.TestCase):
    def test_up_to_8_and_once_more(self):
        self.assertEqual(ask(*[enter()] * 10), [[1], [2], [3], [4], [5], [6], [7], [8], [-3], [-3]])
        self.assertEqual(last(*[enter()] * 9, counts()), [0, 0, 8, 0, 0])

    def test_8_is_reached_again_behind_a_leave(self):
        self.assertEqual(ask(*[enter()] * 8, leave(), enter(), enter())[8:], [[0], [8], [-3]])

    def test_blocks_belong_to_the_innermost_group(self):
        line = [call for group in range(8) for call in (take(1), enter())]
        self.assertEqual(last(*line, zero(2), blocks()),
                         [9] + [number for group in range(8) for number in (group, 1, 1, group)] + [8, 2, 1, 8])

    def test_enter_leaves_the_groups_of_blocks(self):
        self.assertEqual(last(take(1), enter(), enter(), size(0)), [1, 1, 0])


class Leave(unittest.TestCase):
    def test_at_depth_0(self):
        self.assertEqual(ask(leave(), counts()), [[-4], [0, 0, 0, 0, 0]])
        self.assertEqual(ask(take(3), leave(), blocks(), enter(), leave(), leave(), counts())[1:],
                         [[-4], [1, 0, 3, 1, 0], [1], [0], [-4], [1, 3, 0, 1, 3]])

    def test_no_block_one_and_several(self):
        self.assertEqual(ask(enter(), leave(), rows()), [[1], [0], [1, 0, 64]])
        self.assertEqual(ask(enter(), take(3), leave(), rows()), [[1], [0], [1], [1, 0, 64]])
        self.assertEqual(ask(enter(), take(3), zero(0), take(5, 8), leave(), rows(), size(0), of(3), next_from(0))[4:],
                         [[3], [1, 0, 64], [-2], [-4], [-4]])

    def test_blocks_of_outer_groups_stay(self):
        line = (begin(30), take(2), enter(), take(3), take(4), enter(), take(5), take(6), take(1))
        self.assertEqual(ask(*line, leave(), blocks(), rows(), counts())[-4:],
                         [[3], [3, 0, 2, 1, 0, 2, 3, 1, 1, 5, 4, 1, 1], [1, 9, 21], [3, 9, 1, 2, 21]])
        self.assertEqual(ask(*line, leave(), leave(), blocks(), counts())[-3:],
                         [[2], [1, 0, 2, 1, 0], [1, 2, 0, 1, 21]])
        self.assertEqual(last(*line, leave(), leave(), leave()), [-4])

    def test_a_block_given_back_is_not_counted(self):
        self.assertEqual(last(enter(), take(3), take(3), give(0), leave()), [1])

    def test_of_a_group_entered_anew_there_are_no_blocks(self):
        self.assertEqual(ask(enter(), take(3), leave(), enter(), counts(), leave())[3:], [[1], [0, 0, 1, 0, 3], [0]])

    def test_the_places_can_be_taken_again(self):
        self.assertEqual(ask(begin(8), take(2), enter(), take(6), take(1), leave(), take(6))[3:],
                         [[2], [-3], [1], [2]])

    def test_a_resized_block_keeps_its_group(self):
        line = (begin(40), take(4), enter(), take(4), enter())
        # The block of group 1 stays where it is; that of group 0 moves, from within group 2.
        line = line + (resize(4, 6), resize(0, 8), blocks())
        self.assertEqual(last(*line), [2, 4, 6, 1, 1, 10, 8, 1, 0])
        self.assertEqual(ask(*line, leave(), leave(), blocks())[-3:], [[0], [1], [1, 10, 8, 1, 0]])

    def test_a_packed_block_keeps_its_group(self):
        self.assertEqual(ask(take(4), enter(), take(4), enter(), take(4), give(0), pack(), blocks(), leave(), leave(),
                             blocks())[-5:],
                         [[2, 0, 4], [2, 0, 4, 1, 1, 4, 4, 1, 2], [1], [1], [0]])


class Keep(unittest.TestCase):
    def test_of_the_innermost_group(self):
        self.assertEqual(ask(enter(), take(3, 2), keep(0), size(0), counts())[2:], [[0], [3, 2, 0], [1, 3, 1, 0, 3]])
        self.assertEqual(ask(enter(), enter(), take(3), keep(0), keep(0), keep(0), size(0))[3:],
                         [[1], [0], [-4], [3, 1, 0]])

    def test_of_group_0(self):
        self.assertEqual(ask(take(3), keep(0), enter(), keep(0), size(0)), [[0], [-4], [1], [-4], [3, 1, 0]])

    def test_of_one_further_out(self):
        self.assertEqual(ask(enter(), enter(), take(1), enter(), enter(), keep(0), size(0), counts())[5:],
                         [[1], [1, 1, 1], [1, 1, 4, 0, 1]])

    def test_from_8_to_0(self):
        given = ask(*[enter()] * 8, take(1), *[keep(0)] * 9)
        self.assertEqual(given[9:], [[7], [6], [5], [4], [3], [2], [1], [0], [-4]])

    def test_a_kept_block_outlives_the_leave(self):
        line = (enter(), enter(), take(3), take(3), take(3), write(3, 0, [7, 8, 9]), keep(3))
        self.assertEqual(ask(*line, leave(), blocks(), read(3, 0, 3))[-3:], [[2], [1, 3, 3, 1, 1], [3, 7, 8, 9]])
        self.assertEqual(ask(*line, leave(), leave(), blocks())[-2:], [[1], [0]])
        self.assertEqual(ask(*line, leave(), keep(3), leave(), blocks())[-3:], [[0], [0], [1, 3, 3, 1, 0]])

    def test_no_block_there(self):
        for b in (1, 2, 3, 4, 63, 64, LARGEST):
            self.assertEqual(ask(enter(), take(3), keep(b), blocks())[2:], [[-2], [1, 0, 3, 1, 1]])
        self.assertEqual(last(keep(0)), [-2])
        self.assertEqual(last(enter(), take(3), give(0), keep(0)), [-2])
        self.assertEqual(last(enter(), take(3), leave(), keep(0)), [-2])

    def test_the_block_is_its_own_alone(self):
        self.assertEqual(last(enter(), take(1), take(1), take(1), keep(1), blocks()),
                         [3, 0, 1, 1, 1, 1, 1, 1, 0, 2, 1, 1, 1])


class Counts(unittest.TestCase):
    def test_new_object(self):
        self.assertEqual(last(counts()), [0, 0, 0, 0, 0])

    def test_behind_every_other_call(self):
        line = (
            (begin(50, 0), [0, 0, 0, 0, 0]), (take(4), [1, 4, 0, 1, 4]), (zero(3, 8), [2, 7, 0, 2, 11]),
            (take(0), [3, 7, 0, 3, 5]), (resize(0, 6), [3, 9, 0, 3, 17]), (enter(), [3, 9, 1, 0, 17]),
            (take(5, 4), [4, 14, 1, 1, 25]), (take(2), [5, 16, 1, 2, 2]), (give(8), [4, 13, 1, 2, 2]),
            (size(4), [4, 13, 1, 2, 2]), (of(0), [4, 13, 1, 2, 2]), (next_from(0), [4, 13, 1, 2, 2]),
            (most(1), [4, 13, 1, 2, 2]), (rows(), [4, 13, 1, 2, 2]), (keep(20), [4, 13, 1, 1, 2]),
            (write(20, 0, [1, 2]), [4, 13, 1, 1, 2]), (read(20, 0, 2), [4, 13, 1, 1, 2]),
            (walk(), [4, 13, 1, 1, 2]), (step(), [4, 13, 1, 1, 2]), (blocks(), [4, 13, 1, 1, 2]),
            (resize(0, 2), [4, 13, 1, 1, 2]), (pack(), [4, 13, 1, 1, 2]), (leave(), [3, 11, 0, 3, 2]),
            (begin(9), [0, 0, 0, 0, 0]))
        given = ask(*[call for pair in line for call in (pair[0], counts())])
        for place, (call, expected) in enumerate(line):
            self.assertGreaterEqual(given[2 * place][0], 0, call)
            self.assertEqual(given[2 * place + 1], expected, (place, call))

    def test_mark_is_the_place_behind_the_reach_under_all_rules(self):
        for rule in range(5):
            line = [begin(40, rule)]
            for call in (take(4), zero(3, 4), take(0), zero(0)):
                line.append(call)
                given = ask(*line, counts())
                self.assertEqual(given[-1][4], given[-2][0] + max(call[1], 1))
            for n in (9, 5, 0, 7, 1):
                line.append(resize(last(*line, next_from(0))[0], n))
                given = ask(*line, counts())
                self.assertEqual(given[-1][4], given[-2][0] + max(n, 1))

    def test_mark_of_the_whole_ground(self):
        self.assertEqual(last(begin(2048), take(2048), counts()), [1, 2048, 0, 1, 2048])
        self.assertEqual(last(begin(1), take(0), counts()), [1, 0, 0, 1, 1])

    def test_mark_stays_behind_all_but_take_zero_resize_open(self):
        line = (begin(40, 4), enter(), take(4), take(4), take(4), resize(4, 2))
        others = (take(41), take(1, 3), zero(41), zero(1, 3), resize(4, 41), resize(1, 1), begin(0), begin(9, 5),
                  give(4), give(1), size(0), of(0), next_from(0), most(), rows(), enter(), leave(), keep(8), counts(),
                  write(0, 0, [1]), write(0, 4, [1]), read(0, 0, 4), read(0, 4, 1), pack(), walk(), step(), blocks())
        for other in others:
            self.assertEqual(last(*line, other, counts())[4], 6, other)
        # Rule 4 goes on from the mark that pack has left.
        self.assertEqual(ask(*line, give(0), pack(), counts(), take(1))[-3:], [[2, 0, 2], [2, 6, 1, 2, 6], [6]])

    def test_mark_behind_a_resize_that_stays(self):
        line = (begin(40, 0), take(4), take(4))
        for n, mark in ((0, 1), (1, 1), (2, 2), (4, 4)):
            self.assertEqual(last(*line, resize(0, n), counts())[4], mark)
        self.assertEqual(last(*line, resize(4, 9), counts())[4], 13)


if __name__ == "__main__":
    unittest.main()
