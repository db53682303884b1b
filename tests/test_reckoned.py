"""Many lines, chosen by a fixed seed, against the second reckoning place by place."""

import itertools
import random
import unittest

from lentground.ground import answers
from lentground.keeper import Ground

from helper import (LARGEST, SlowGround, begin, blocks, call_on, counts, enter, give, joined, keep, leave, pack, resize,
                    rows, size, split, step, take, walk, write)

ALIGNMENTS = (1, 1, 1, 2, 2, 4, 8, 16, 64, 256, 0, 3, 512)
TAKES = (2, 2, 2, 2, 3, 3)
# The first ten often, then all twenty alike, then those that change where blocks lie and what stands in them.
CHOICES = (TAKES + (4, 4, 4, 5, 5, 6, 7, 8, 9, 10),
           TAKES + (4, 4, 4, 5, 15, 15, *range(4, 21)),
           TAKES + (4, 4, 5, 11, 12, 13, 15, 15, 15, 16, 16, 17),
           TAKES + (5, 17, 18, 18, 19, 19, 19, 19, 19))


def chosen_place(chance, slow):
    """A number near what matters: a block's address, a place, an end, now and then one far too large."""
    how_many = len(slow.owner)
    kind = chance.randrange(12)
    if kind == 0:
        return chance.choice((how_many - 1, how_many, how_many + 1, 2048, LARGEST))
    if kind < 8 and slow.blocks:
        return chance.choice(sorted(slow.blocks))
    return chance.randrange(how_many + 1)


def chosen_length(chance, how_many):
    if chance.randrange(15) == 0:
        return chance.choice((0, how_many, how_many + 1, LARGEST))
    return chance.randrange(1 + max(1, how_many // chance.choice((1, 2, 4, 8))))


def chosen_stretch(chance, n):
    """Where to begin and how many, mostly within n bytes, now and then just or far beyond."""
    if chance.randrange(10) == 0:
        return chance.choice((0, 1, n, n + 1, LARGEST)), chance.choice((0, 1, n, n + 1, LARGEST))
    first = chance.randrange(n + 1)
    return first, chance.randrange(n - first + 1)


def chosen_content_call(chance, slow, number):
    b = chosen_place(chance, slow)
    first, how_many = chosen_stretch(chance, slow.blocks.get(b, (3,))[0])
    if number == 16:
        return [16, b, first, how_many]
    return write(b, first, [chance.randrange(256) for i in range(min(how_many, 70))])


def chosen_call(chance, slow, choice):
    number = chance.choice(choice)
    how_many = len(slow.owner)
    if number in (2, 3):
        return [number, chosen_length(chance, how_many), chance.choice(ALIGNMENTS)]
    if number == 4:
        return [4, chosen_place(chance, slow), chosen_length(chance, how_many)]
    if number == 9:
        return [9, chance.choice(ALIGNMENTS)]
    if number in (10, 11, 12, 14, 17, 20):
        return [number]
    if number in (15, 16):
        return chosen_content_call(chance, slow, number)
    if number == 19:
        return [19, chance.choice((0, 0, 0, 1, 1, 2, 3, 4, LARGEST))]
    return [number, chosen_place(chance, slow)]


def chosen_open(chance, rule):
    return begin(chance.choice((0, 1, 5, 17, 30, 64, 2049)), chance.choice((rule, rule, 0, 4, 5)))


def held(ground):
    """What a ground holds, in the second reckoning's form."""
    found = {b: (block.n, block.alignment, block.group) for b, block in ground.blocks.items()}
    walks = [ground.walks.get(w) for w in range(4)]
    return ground.rule, ground.store, found, ground.mark, ground.depth, walks


def held_slowly(slow):
    return slow.rule, slow.bytes, slow.blocks, slow.mark, slow.depth, slow.walks


class Reckoned(unittest.TestCase):
    def compare_line(self, seed, rule, how_many, calls, choice, opens=False):
        """A line of so many calls behind open, held against the second reckoning behind each call."""
        chance = random.Random(seed)
        slow = SlowGround()
        ground = Ground()
        line = []
        expected = []
        for i in range(calls + 1):
            call = chosen_call(chance, slow, choice)
            if i == 0:
                call = begin(how_many, rule)
            elif opens and chance.randrange(60) == 0:
                call = chosen_open(chance, rule)
            line.append(call)
            expected.append(slow.answer(call))
            self.assertEqual(call_on(ground, call), expected[-1], line)
            self.assertEqual(held(ground), held_slowly(slow), line)
        self.compare_whole(line, expected)

    def compare_whole(self, line, expected):
        handed = joined(line)
        copied = list(handed)
        self.assertLessEqual(len(handed), 16000)
        given = answers(handed)
        self.assertEqual(split(given), expected)
        self.assertEqual(handed, copied)
        self.assertEqual(answers(handed), given)

    def test_small_grounds(self):
        for seed in range(2000):
            self.compare_line(seed, seed % 5, 1 + seed * 7 % 40, 40, CHOICES[seed % 4])

    def test_middle_grounds(self):
        for seed in range(200):
            self.compare_line(seed, seed % 5, 100 + seed, 60, CHOICES[seed % 4])

    def test_a_large_ground_and_long_lines(self):
        for rule in range(5):
            for choice in CHOICES:
                self.compare_line(rule, rule, 300, 399, choice)

    def test_long_lines_with_open_between(self):
        for seed in range(50):
            self.compare_line(seed, seed % 5, 64, 399, CHOICES[1], opens=True)

    def test_the_largest_ground(self):
        for rule in range(5):
            self.compare_line(rule, rule, 2048, 60, (2, 3, 4, 5, 11, 12, 13, 14, 15, 16, 17, 18, 19, 20))

    def test_a_line_of_400_calls_and_16000_numbers(self):
        chance = random.Random(16000)
        slow = SlowGround()
        line = [begin(2048, 4), take(1500, 4), take(300)]
        while len(line) < 392:
            calls = (write(0, chance.randrange(1400), [chance.randrange(256) for i in range(102)]),
                     [16, 0, chance.randrange(1490), 10], take(1), pack(), counts())
            line.append(calls[len(line) % 5])
        line.extend([write(0, 0, list(range(256)) * 5), write(0, 0, [1] * 4000), write(1500, 0, [7] * 300),
                     [16, 0, 0, 1500], [16, 1500, 0, 300], rows(), [20]])
        left = 16000 - len(joined(line)) - 4
        self.assertTrue(1000 <= left < 1500, left)
        line.append(write(0, 1, [chance.randrange(256) for i in range(left)]))
        self.assertEqual((len(line), len(joined(line))), (400, 16000))
        self.compare_whole(line, [slow.answer(call) for call in line])

    def test_all_short_lines_on_a_tiny_ground(self):
        calls = (take(0), take(1, 2), take(2), give(0), give(2), resize(0, 1), resize(1, 3), resize(2, 3))
        for rule in range(5):
            self.compare_all(rule, calls, [rows(), size(0)])

    def test_all_short_lines_of_groups_walks_and_moves(self):
        calls = (take(1), enter(), leave(), keep(0), step(), pack(), give(0), write(0, 0, [9]))
        for rule in range(5):
            self.compare_all(rule, calls, [counts(), step(), step(), walk(), blocks(), take(6), [16, 0, 0, 1]],
                             [walk(), take(2, 2)])

    def compare_all(self, rule, calls, behind, ahead=()):
        for chosen in itertools.product(calls, repeat=4):
            line = [begin(6, rule), *ahead, *chosen, *behind]
            slow = SlowGround()
            self.assertEqual(split(answers(joined(line))), [slow.answer(call) for call in line], line)


if __name__ == "__main__":
    unittest.main()
