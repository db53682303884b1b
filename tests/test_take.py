import unittest

from helper import ALL_ALIGNMENTS, LARGEST, ask, begin, give, last, most, of, resize, rows, size, take, zero

WRONG_ALIGNMENTS = (0, 3, 5, 6, 7, 12, 96, 255, 257, 258, 320, 384, 511, 512, 1024, 2 ** 63, LARGEST)

# Rows behind these: 0 to 9, 12 to 15, 18 to 21, 24 to 33, 36 to 39 (10, 4, 4, 10, 4 places).
FIVE_ROWS = (take(10), take(2), take(4), take(2), take(4), take(2), take(10), take(2), take(4),
             give(0), give(12), give(18), give(24), give(36))


def five_rows(rule):
    """The five rows under a rule: blocks lie as by rule 0, for each fits at one address alone then."""
    if rule == 1:
        sizes = (4, 2, 10, 2, 4, 2, 4, 2, 10)
        return (begin(40, 1),) + tuple(take(n) for n in sizes) + FIVE_ROWS[9:]
    return (begin(40, rule),) + FIVE_ROWS


class Take(unittest.TestCase):
    """What take answers, zero answers too."""

    def test_answers_the_address(self):
        for call in (take, zero):
            self.assertEqual(ask(call(3), call(5, 4), call(1, 2), size(4), rows()),
                             [[0], [4], [10], [5, 4, 0], [3, 3, 1, 9, 1, 11, 53]])

    def test_block_of_no_bytes_takes_one_place(self):
        for call in (take, zero):
            self.assertEqual(ask(begin(2), call(0), call(0), call(0), size(0), size(1), of(1), rows()),
                             [[0], [0], [1], [-3], [0, 1, 0], [0, 1, 0], [1], [0]])

    def test_every_alignment(self):
        for call in (take, zero):
            for a in ALL_ALIGNMENTS:
                self.assertEqual(ask(begin(600), call(1), call(2, a), size(a)),
                                 [[0], [0], [a], [2, a, 0]])

    def test_wrong_alignments(self):
        for call in (take, zero):
            for a in WRONG_ALIGNMENTS:
                self.assertEqual(ask(begin(600, 4), call(1), call(2, a), rows(), call(1)),
                                 [[0], [0], [-1], [1, 1, 599], [1]])

    def test_wrong_alignment_counts_before_no_room(self):
        for call in (take, zero):
            self.assertEqual(last(call(65, 3)), [-1])
            self.assertEqual(last(call(LARGEST, 0)), [-1])
            self.assertEqual(ask(call(64), call(0, 512))[-1], [-1])

    def test_fits_exactly_or_not(self):
        for call in (take, zero):
            for rule in range(5):
                self.assertEqual(ask(begin(40, rule), call(40), rows()), [[0], [0], [0]])
                self.assertEqual(ask(begin(40, rule), call(41), rows()), [[0], [-3], [1, 0, 40]])
                self.assertEqual(ask(begin(40, rule), call(LARGEST), rows()), [[0], [-3], [1, 0, 40]])
                self.assertEqual(ask(begin(40, rule), call(1), call(39))[-1][0] >= 0, True)
                self.assertEqual(ask(begin(40, rule), call(1), call(40))[-1], [-3])

    def test_exact_in_a_row_between_blocks(self):
        for call in (take, zero):
            for rule in range(5):
                self.assertEqual(ask(*five_rows(rule), resize(34, 1), call(11))[-1], [-3])
                self.assertIn(ask(*five_rows(rule), call(10))[-1], ([0], [24]))

    def test_alignment_can_leave_no_room(self):
        for call in (take, zero):
            for rule in range(5):
                self.assertEqual(ask(begin(17, rule), call(17), resize(0, 1), call(1, 16), call(1, 16)),
                                 [[0], [0], [0], [16], [-3]])

    def test_refused_take_keeps_the_mark(self):
        for call in (take, zero):
            for refused in (call(60), call(1, 3)):
                self.assertEqual(ask(begin(50, 4), call(5), call(5), give(0), refused, call(1))[-1], [10])

    def test_a_reach_is_not_lent_twice(self):
        given = ask(begin(9), take(3), take(0), take(4), take(2), take(1))
        self.assertEqual(given, [[0], [0], [3], [4], [-3], [8]])
        self.assertEqual(ask(begin(9), take(3), take(0), take(4), take(1), take(0))[-1], [-3])


class Rules(unittest.TestCase):
    def test_the_five_rows(self):
        for rule in range(5):
            self.assertEqual(last(*five_rows(rule), rows()), [5, 0, 10, 12, 4, 18, 4, 24, 10, 36, 4])

    def test_rule_0_least(self):
        cases = ((3, 1, 0), (0, 1, 0), (10, 1, 0), (4, 4, 0), (1, 256, 0))
        for n, a, address in cases:
            self.assertEqual(last(*five_rows(0), take(n, a)), [address])
        self.assertEqual(last(*five_rows(0), take(10), take(4, 4)), [12])
        self.assertEqual(last(*five_rows(0), take(10), take(2, 8)), [24])

    def test_rule_1_greatest(self):
        cases = ((3, 1, 37), (0, 1, 39), (4, 1, 36), (5, 1, 29), (1, 8, 32), (2, 16, 32), (3, 8, 24),
                 (10, 8, 24), (10, 16, 0), (4, 4, 36), (3, 32, 0), (1, 256, 0))
        for n, a, address in cases:
            self.assertEqual(last(*five_rows(1), take(n, a)), [address])

    def test_rule_2_shortest(self):
        cases = ((3, 1, 12), (4, 1, 12), (4, 4, 12), (5, 1, 0), (2, 2, 12), (2, 8, 0), (1, 16, 0),
                 (1, 32, 0), (10, 8, 0), (2, 4, 12), (3, 256, 0))
        for n, a, address in cases:
            self.assertEqual(last(*five_rows(2), take(n, a)), [address])
        self.assertEqual(last(*five_rows(2), take(4), take(3)), [18])
        self.assertEqual(last(*five_rows(2), take(4), take(3, 4)), [36])
        self.assertEqual(last(*five_rows(2), take(4), take(2), take(2)), [20])
        self.assertEqual(last(*five_rows(2), take(10), take(5)), [24])

    def test_rule_3_longest(self):
        cases = ((3, 1, 0), (4, 1, 0), (0, 1, 0), (10, 8, 0))
        for n, a, address in cases:
            self.assertEqual(last(*five_rows(3), take(n, a)), [address])
        self.assertEqual(last(*five_rows(3), take(1), take(3)), [24])
        self.assertEqual(last(*five_rows(3), take(1), take(3, 16)), [-3])
        self.assertEqual(last(*five_rows(3), take(1), take(2, 16)), [32])
        self.assertEqual(last(*five_rows(3), take(10), take(10), take(3)), [12])

    def test_rule_3_passes_a_longer_row_it_does_not_fit_in(self):
        # Row 1 to 15 is the longest, yet has no multiple of 16.
        line = (begin(20, 3), take(1), take(15), take(1), give(1))
        self.assertEqual(last(*line, take(1, 16), rows()), [2, 1, 15, 17, 3])
        line = (begin(40, 3), take(1), take(14), take(1), take(4), take(1), give(1), give(16), take(19))
        self.assertEqual(ask(*line, rows(), take(2, 16))[-2:], [[2, 1, 14, 16, 4], [16]])

    def test_rule_2_passes_a_shorter_row_it_does_not_fit_in(self):
        # Rows 1 to 3 and 5 to 11: only the longer one has a multiple of 8 with room.
        line = (begin(12, 2), take(1), take(3), take(1), give(1))
        self.assertEqual(ask(*line, rows(), take(2, 8))[-2:], [[2, 1, 3, 5, 7], [8]])
        self.assertEqual(ask(*line, take(3, 2))[-1], [6])

    def test_rule_4_in_the_midst_of_a_row(self):
        line = (begin(40, 4), take(4), take(4), give(4), give(0))
        self.assertEqual(ask(*line, rows(), take(3))[-2:], [[1, 0, 40], [8]])
        self.assertEqual(last(*line, take(3, 16)), [16])
        self.assertEqual(last(*line, take(32)), [8])

    def test_rule_4_at_the_mark_itself_and_beyond(self):
        self.assertEqual(ask(begin(40, 4), take(4), take(4, 4), take(1, 4), take(1, 4)),
                         [[0], [0], [4], [8], [12]])

    def test_rule_4_goes_round_where_none_fits_behind_the_mark(self):
        line = (begin(40, 4), take(4), take(4), give(0), give(4))
        self.assertEqual(last(*line, take(33)), [0])
        self.assertEqual(last(*line, take(9, 32)), [0])
        self.assertEqual(last(*line, take(8, 32)), [32])
        self.assertEqual(ask(begin(8, 4), take(4), take(4), give(0), take(2), take(3), take(2)),
                         [[0], [0], [4], [0], [0], [-3], [2]])

    def test_rule_4_mark_at_the_very_end(self):
        self.assertEqual(ask(begin(8, 4), take(8), give(0), take(0), take(7), give(0), take(1)),
                         [[0], [0], [0], [0], [1], [0], [0]])

    def test_rule_4_mark_behind_a_resize_that_stays(self):
        line = (begin(40, 4), take(4), take(4), take(4), give(4))
        self.assertEqual(last(*line, take(1)), [12])
        for n, mark in ((4, 4), (2, 2), (0, 1), (6, 6), (8, 12)):
            self.assertEqual(ask(*line, resize(0, n), take(1))[-2:], [[0], [mark]])

    def test_rule_4_mark_behind_a_resize_that_moves(self):
        line = (begin(40, 4), take(4), take(4), give(0), take(2))
        self.assertEqual(ask(*line, resize(4, 20), take(1))[-3:], [[8], [10], [30]])

    def test_rule_4_mark_stays_behind_refusals_and_questions(self):
        line = (begin(40, 4), take(4), take(4), take(4), take(20), resize(4, 2))
        for other in (resize(4, 30), resize(5, 1), give(9), give(0), size(0), of(0), most(), rows(), take(9)):
            self.assertEqual(last(*line, other, take(1)), [6])


if __name__ == "__main__":
    unittest.main()
