import unittest

from helper import ALL_ALIGNMENTS, LARGEST, ask, begin, give, last, most, next_from, of, resize, rows, size, take

# Blocks at 2 (3 bytes), 8 (0 bytes), 9 (7 bytes) on 20 places.
SOME = (begin(20), take(2), take(3), take(3), take(0), take(7), give(0), give(5))


class Give(unittest.TestCase):
    def test_its_places_are_free_again(self):
        self.assertEqual(ask(begin(10), take(4), take(6), give(0), rows(), size(0), of(3), give(4), rows()),
                         [[0], [0], [4], [0], [1, 0, 4], [-2], [-4], [0], [1, 0, 10]])
        self.assertEqual(ask(begin(1), take(0), give(0), take(1)), [[0], [0], [0], [0]])

    def test_no_block_there(self):
        for b in (0, 3, 4, 5, 7, 10, 16, 19, 20, 21, LARGEST):
            self.assertEqual(ask(*SOME, give(b), rows())[-2:], [[-2], [3, 0, 2, 5, 3, 16, 4]])
        self.assertEqual(ask(take(4), give(0), give(0)), [[0], [0], [-2]])


class Size(unittest.TestCase):
    def test_tells_n_alignment_group(self):
        self.assertEqual(ask(take(5, 2), take(0, 16), size(0), size(16)), [[0], [16], [5, 2, 0], [0, 16, 0]])

    def test_no_block_there(self):
        for b in (0, 3, 5, 10, 16, 20, LARGEST):
            self.assertEqual(last(*SOME, size(b)), [-2])


class Of(unittest.TestCase):
    def test_each_place(self):
        expected = [-4] * 2 + [2] * 3 + [-4] * 3 + [8] + [9] * 7 + [-4] * 5
        for p, address in enumerate(expected):
            self.assertEqual(last(*SOME, of(p)), [address])
        self.assertEqual(last(*SOME, of(LARGEST)), [-4])

    def test_empty_and_full(self):
        for p in (0, 1, 63, 64, LARGEST):
            self.assertEqual(last(of(p)), [-4])
        self.assertEqual(ask(take(60), take(4), of(0), of(59), of(60), of(63), of(64))[2:],
                         [[0], [0], [60], [60], [-4]])


class Next(unittest.TestCase):
    def test_each_place(self):
        expected = [2] * 3 + [8] * 6 + [9] + [-4] * 11
        for p, address in enumerate(expected):
            self.assertEqual(last(*SOME, next_from(p)), [address])
        self.assertEqual(last(*SOME, next_from(LARGEST)), [-4])

    def test_empty_and_full(self):
        for p in (0, 63, 64, LARGEST):
            self.assertEqual(last(next_from(p)), [-4])
        self.assertEqual(ask(take(60), take(4), next_from(0), next_from(1), next_from(60), next_from(61))[2:],
                         [[0], [60], [60], [-4]])

    def test_goes_by_addresses_not_by_age(self):
        self.assertEqual(ask(begin(20, 1), take(4), take(4), next_from(0), next_from(13))[3:], [[12], [16]])


class Most(unittest.TestCase):
    def test_empty_and_full(self):
        for a in ALL_ALIGNMENTS:
            self.assertEqual(ask(begin(300), most(a))[-1], [300])
            self.assertEqual(ask(begin(300), take(300), most(a))[-1], [-3])
            self.assertEqual(ask(begin(a), take(0), most(a))[-1], [-3])
            self.assertEqual(ask(begin(a + 1), take(0), most(a))[-1], [1])

    def test_alignment_takes_of_the_row(self):
        line = (begin(50), take(3), take(20), take(2), give(3))
        # Rows 3 to 22 and 25 to 49.
        for a, n in ((1, 25), (2, 24), (4, 22), (8, 18), (16, 18), (32, 18), (64, -3), (256, -3)):
            self.assertEqual(last(*line, most(a)), [n])

    def test_wrong_alignment(self):
        for a in (0, 3, 6, 255, 257, 512, LARGEST):
            self.assertEqual(last(most(a)), [-1])
            self.assertEqual(last(take(64), most(a)), [-1])

    def test_tells_the_truth_of_take(self):
        lines = (SOME[1:], (take(1),), (take(2048),), (take(3), take(20), take(2), give(3)),
                 (take(300), take(1), give(0), take(7, 256)), (take(0), take(5, 8), resize(8, 0)))
        for rule in range(5):
            for line in lines:
                for how_many in (20, 50, 600):
                    self.compare((begin(how_many, rule),) + line)

    def compare(self, line):
        for a in ALL_ALIGNMENTS:
            n = last(*line, most(a))[0]
            if n == -3:
                self.assertEqual(last(*line, take(0, a)), [-3])
            else:
                self.assertGreaterEqual(last(*line, take(n, a))[0], 0)
                self.assertEqual(last(*line, take(n + 1, a)), [-3])


class Rows(unittest.TestCase):
    def test_empty_full_and_between(self):
        self.assertEqual(last(rows()), [1, 0, 64])
        self.assertEqual(last(take(64), rows()), [0])
        self.assertEqual(last(begin(3), take(0), take(0), take(0), rows()), [0])
        self.assertEqual(last(*SOME, rows()), [3, 0, 2, 5, 3, 16, 4])

    def test_rows_grow_together(self):
        self.assertEqual(last(*SOME, give(2), rows()), [2, 0, 8, 16, 4])
        self.assertEqual(last(*SOME, give(8), rows()), [3, 0, 2, 5, 4, 16, 4])
        self.assertEqual(last(*SOME, give(9), rows()), [3, 0, 2, 5, 3, 9, 11])

    def test_at_both_ends(self):
        self.assertEqual(last(begin(9), take(3), take(3), take(3), give(3), rows()), [1, 3, 3])
        self.assertEqual(last(begin(9), take(3), take(3), take(3), give(0), give(6), rows()), [2, 0, 3, 6, 3])


if __name__ == "__main__":
    unittest.main()
