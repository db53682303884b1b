"""Many lines, chosen by a fixed seed, against the second reckoning place by place."""

import itertools
import random
import unittest

from lentground.calls import answer_call
from lentground.ground import answers
from lentground.keeper import Ground

from helper import LARGEST, SlowGround, begin, give, joined, resize, rows, size, split, take

ALIGNMENTS = (1, 1, 1, 2, 2, 4, 8, 16, 64, 256, 0, 3, 512)


def chosen_number(chance, blocks, how_many):
    """A number near what matters: a block's address, a place, an end, now and then one far too large."""
    kind = chance.randrange(12)
    if kind == 0:
        return chance.choice((how_many - 1, how_many, how_many + 1, 2048, LARGEST))
    if kind < 8 and blocks:
        return chance.choice(sorted(blocks))
    return chance.randrange(how_many + 1)


def chosen_length(chance, how_many):
    if chance.randrange(15) == 0:
        return chance.choice((0, how_many, how_many + 1, LARGEST))
    return chance.randrange(1 + max(1, how_many // chance.choice((1, 2, 4, 8))))


def chosen_call(chance, slow):
    how_many = len(slow.owner)
    number = chance.choice((2, 2, 2, 2, 3, 4, 4, 4, 5, 5, 6, 7, 8, 9, 10))
    if number in (2, 3):
        return [number, chosen_length(chance, how_many), chance.choice(ALIGNMENTS)]
    if number == 4:
        return [4, chosen_number(chance, slow.blocks, how_many), chosen_length(chance, how_many)]
    if number == 9:
        return [9, chance.choice(ALIGNMENTS)]
    if number == 10:
        return [10]
    return [number, chosen_number(chance, slow.blocks, how_many)]


def blocks_of(ground):
    return {b: (block.n, block.alignment) for b, block in ground.blocks.items()}


class Reckoned(unittest.TestCase):
    def compare_line(self, seed, rule, how_many, calls):
        chance = random.Random(seed)
        slow = SlowGround()
        line = [begin(how_many, rule)]
        expected = [slow.answer(line[0])]
        ground = Ground()
        answer_call(ground, 1, [how_many, rule])
        ground.store = [chance.randrange(256) for place in range(how_many)]
        slow.bytes = list(ground.store)
        for i in range(calls):
            call = chosen_call(chance, slow)
            line.append(call)
            expected.append(slow.answer(call))
            self.assertEqual(answer_call(ground, call[0], call[1:]), expected[-1], line)
            self.assertEqual(ground.store, slow.bytes, line)
            self.assertEqual(ground.mark, slow.mark, line)
            self.assertEqual(blocks_of(ground), slow.blocks, line)
        self.assertEqual(split(answers(joined(line))), expected)

    def test_small_grounds(self):
        for seed in range(1500):
            self.compare_line(seed, seed % 5, 1 + seed * 7 % 40, 40)

    def test_middle_grounds(self):
        for seed in range(150):
            self.compare_line(seed, seed % 5, 100 + seed, 60)

    def test_a_large_ground_and_long_lines(self):
        for rule in range(5):
            self.compare_line(rule, rule, 400, 399)

    def test_all_short_lines_on_a_tiny_ground(self):
        calls = (take(0), take(1, 2), take(2), give(0), give(2), resize(0, 1), resize(1, 3), resize(2, 3))
        for rule in range(5):
            for chosen in itertools.product(calls, repeat=4):
                line = [begin(6, rule), *chosen, rows(), size(0)]
                slow = SlowGround()
                self.assertEqual(split(answers(joined(line))), [slow.answer(call) for call in line], line)


if __name__ == "__main__":
    unittest.main()
