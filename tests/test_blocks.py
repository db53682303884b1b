"""blocks, held against size, of, next and counts."""

import unittest

from helper import (ask, begin, blocks, counts, enter, give, keep, last, leave, next_from, of, pack, resize, size, take,
                    zero)

LINES = (
    (begin(40),),
    (begin(1), take(0)),
    (begin(40, 1), take(4), take(0), take(9, 8), take(2)),
    (begin(60, 2), take(6), enter(), zero(7, 4), take(0, 16), enter(), take(3), give(0), keep(8), take(2)),
    (begin(60, 3), take(6), enter(), take(7, 4), enter(), take(3), enter(), take(1), leave(), resize(8, 9)),
    (begin(60, 4), enter(), take(6), take(5, 8), take(0), take(11), give(8), pack(), take(1), resize(0, 7)),
)


class Blocks(unittest.TestCase):
    def test_none(self):
        self.assertEqual(last(blocks()), [0])
        self.assertEqual(last(take(3), give(0), blocks()), [0])
        self.assertEqual(last(take(3), begin(9), blocks()), [0])

    def test_by_rising_addresses(self):
        self.assertEqual(last(begin(40, 1), take(3), take(0), enter(), take(5, 8), blocks()),
                         [3, 24, 5, 8, 1, 36, 0, 1, 0, 37, 3, 1, 0])
        self.assertEqual(last(take(9), take(1), give(0), enter(), take(2, 2), blocks()), [2, 0, 2, 2, 1, 9, 1, 1, 0])

    def test_against_size_of_next_counts(self):
        for line in LINES:
            given = last(*line, blocks())
            told = [given[at:at + 4] for at in range(1, len(given), 4)]
            self.assertEqual(len(told), given[0])
            self.assertEqual(told, self.by_next_and_size(line))
            self.assertEqual(last(*line, counts())[:4], self.counted(told, last(*line, counts())[2]))
            self.check_reaches(line, told)

    def by_next_and_size(self, line):
        found = []
        address = last(*line, next_from(0))[0]
        while address >= 0:
            found.append([address] + last(*line, size(address)))
            address = last(*line, next_from(address + 1))[0]
        return found

    def counted(self, told, depth):
        innermost = [block for block in told if block[3] == depth]
        return [len(told), sum(block[1] for block in told), depth, len(innermost)]

    def check_reaches(self, line, told):
        owners = [-4] * 70
        for address, n, alignment, group in told:
            self.assertEqual(address % alignment, 0)
            for p in range(address, address + max(n, 1)):
                self.assertEqual(owners[p], -4)
                owners[p] = address
        self.assertEqual(ask(*line, *[of(p) for p in range(70)])[len(line):], [[owner] for owner in owners])

    def test_as_many_as_there_can_be(self):
        line = [begin(2048)] + [take(0)] * 398
        self.assertEqual(last(*line, blocks()), [398] + [number for p in range(398) for number in (p, 0, 1, 0)])


if __name__ == "__main__":
    unittest.main()
