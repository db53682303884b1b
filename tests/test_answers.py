import unittest

from lentground.ground import answers

from helper import (LARGEST, ask, begin, blocks, counts, enter, give, joined, keep, leave, most, next_from, of, pack,
                    read, resize, rows, size, split, step, take, walk, write, zero)

LINE = joined((begin(40, 2), take(5, 2), zero(7, 8), take(0), resize(0, 6), give(8), size(16), of(21), next_from(6),
               most(4), rows(), take(1, 3), resize(1, 1), size(39), of(39), most(0), give(7), take(LARGEST, 256),
               begin(2049, 0), zero(1, 512), next_from(LARGEST),
               leave(), enter(), take(3), write(5, 0, [1, 0]), read(5, 0, 0), write(0, 1, [255, 7]), read(0, 0, 3),
               counts(), walk(1), step(0), step(0), pack(), step(0), step(0), blocks(), keep(4), keep(0), leave(),
               read(0, 2, 2), read(0, 1, 2), write(4, 6, []), counts()))
LINE_ANSWERS = [[0], [0], [8], [5], [16], [0], [6, 2, 0], [16], [16], [16], [3, 0, 5, 6, 10, 22, 18],
                [-1], [-2], [-2], [-4], [-1], [-2], [-3], [-1], [-1], [-4],
                [-4], [1], [0], [-1], [0], [0], [3, 0, 255, 7],
                [3, 9, 1, 1, 3], [0], [5], [16], [3, 0, 3, 4], [-4], [-1],
                [3, 0, 3, 1, 1, 3, 0, 1, 0, 4, 6, 2, 0], [-4], [0], [0],
                [-1], [2, 255, 7], [0], [3, 9, 0, 3, 3]]


class Interface(unittest.TestCase):
    def test_each_answer_has_how_many_ahead_of_it(self):
        self.assertEqual(answers([10]), [3, 1, 0, 64])
        self.assertEqual(answers([2, 64, 1, 10, 6, 0, 5, 0, 5, 0]), [1, 0, 1, 0, 3, 64, 1, 0, 1, 0, 1, -2])

    def test_a_line_of_all_twenty_calls(self):
        self.assertEqual(split(answers(LINE)), LINE_ANSWERS)

    def test_what_is_handed_in_stays_as_it_was(self):
        handed = list(LINE)
        given = answers(handed)
        self.assertEqual(handed, LINE)
        self.assertIsNot(given, handed)

    def test_what_is_handed_in_is_only_read(self):
        # A list that refuses every change: none is made for a while either.
        class ReadOnly(list):
            def refuse(self, *arguments):
                raise AssertionError("changed")

            append = extend = insert = pop = remove = clear = sort = reverse = refuse
            __setitem__ = __delitem__ = __iadd__ = __imul__ = refuse

        self.assertEqual(answers(ReadOnly(LINE)), answers(LINE))

    def test_nothing_is_kept_from_one_time_to_the_next(self):
        first = answers(LINE)
        self.assertEqual(answers([10]), [3, 1, 0, 64])
        self.assertEqual(answers(LINE), first)
        first.clear()
        self.assertEqual(split(answers(LINE)), LINE_ANSWERS)

    def test_whole_numbers_and_lists_alone(self):
        given = answers(LINE)
        self.assertIs(type(given), list)
        self.assertEqual({type(number) for number in given}, {int})

    def test_how_many_numbers_each_kind_of_answer_has(self):
        self.assertEqual(answers([17]), [1, 0])
        self.assertEqual(answers([20]), [1, 0])
        self.assertEqual(answers([14]), [5, 0, 0, 0, 0, 0])
        self.assertEqual(answers([2, 2, 1, 15, 0, 0, 2, 8, 9, 16, 0, 0, 2, 16, 0, 2, 0, 17, 20, 10]),
                         [1, 0, 1, 0, 3, 2, 8, 9, 1, 0, 2, 1, 0, 5, 1, 0, 2, 1, 0, 3, 1, 2, 62])
        self.assertEqual(answers([11, 13, 0, 18, 7, 19, 0, 19, 0, 12, 12]),
                         [1, 1, 1, -2, 1, 0, 1, -4, 1, -1, 1, 0, 1, -4])

    def test_largest_numbers_everywhere(self):
        big = LARGEST
        self.assertEqual(ask([13, big], [15, big, big, 1, 255], [15, big, big, 0], [16, big, big, big], [18, big],
                             [19, big], [19, 0], take(1), [15, 0, big, 1, 255], [16, 0, big, big], [16, 0, 0, big]),
                         [[-2], [-2], [-2], [-2], [0], [-1], [-4], [0], [-1], [-1], [-1]])
        self.assertEqual(ask([1, big, big], [2, big, big], [3, big, big], [4, big, big], [5, big], [6, big],
                             [7, big], [8, big], [9, big], [2, big, 1], [3, big, 256], take(1), [4, 0, big], rows()),
                         [[-1], [-1], [-1], [-2], [-2], [-2], [-4], [-4], [-1], [-3], [-3], [0], [-3], [1, 1, 63]])

    def test_as_long_a_line_as_there_is(self):
        line = joined([begin(2048)] + [take(1, 2)] * 399)
        self.assertEqual(answers(line), [1, 0] + joined([1, 2 * i] for i in range(399)))
        line = joined([begin(2048)] + [take(5)] * 398 + [rows()])
        self.assertEqual(split(answers(line))[-1], [1, 1990, 58])
        line = joined([take(0)] * 64 + [resize(p, 1) for p in range(64)] + [give(p) for p in range(0, 64, 2)] + [[10]])
        self.assertEqual(split(answers(line))[-1], [32] + joined([p, 1] for p in range(0, 64, 2)))


if __name__ == "__main__":
    unittest.main()
