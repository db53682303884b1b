"""walk and step."""

import unittest

from helper import (LARGEST, ask, begin, counts, enter, give, keep, last, leave, next_from, pack, resize, step, take,
                    walk, write)

# Blocks at 0, 4, 8, 12 of 4 bytes each.
FOUR = (begin(40), take(4), take(4), take(4), take(4))


class Walk(unittest.TestCase):
    def test_four_and_a_fifth(self):
        self.assertEqual(ask(walk(), walk(5), walk(LARGEST), walk(), walk(), walk(9)),
                         [[0], [1], [2], [3], [-3], [-3]])

    def test_the_least_number_once_more_behind_an_end(self):
        for ended in range(4):
            self.assertEqual(ask(*[walk()] * 4, step(ended), walk(), walk())[4:], [[-4], [ended], [-3]])
        self.assertEqual(ask(*[walk()] * 4, step(3), step(1), walk(), walk(), walk())[4:],
                         [[-4], [-4], [1], [3], [-3]])
        self.assertEqual(ask(walk(), walk(), step(0), walk(), walk()), [[0], [1], [-4], [0], [2]])

    def test_a_refused_walk_changes_no_other(self):
        self.assertEqual(ask(*FOUR, *[walk(5)] * 4, walk(0), step(0), step(1), step(2), step(3))[-5:],
                         [[-3], [8], [8], [8], [8]])

    def test_from_any_place(self):
        expected = [0] + [4] * 4 + [8] * 4 + [12] * 4 + [-4] * 5
        for p, address in enumerate(expected):
            self.assertEqual(ask(*FOUR, walk(p), step())[-2:], [[0], [address]])
        self.assertEqual(ask(*FOUR, walk(LARGEST), step(), step())[-3:], [[0], [-4], [-1]])

    def test_a_walk_begun_anew_begins_at_its_own_place(self):
        self.assertEqual(ask(*FOUR, walk(12), step(), step(), walk(4), step())[-5:], [[0], [12], [-4], [0], [4]])


class Step(unittest.TestCase):
    def test_tells_each_block_then_ends(self):
        self.assertEqual(ask(*FOUR, walk(), *[step()] * 6)[5:], [[0], [0], [4], [8], [12], [-4], [-1]])

    def test_no_such_walk(self):
        for w in (0, 1, 3, 4, 5, 2048, LARGEST):
            self.assertEqual(last(*FOUR, step(w)), [-1])
        for w in (1, 2, 3, 4, LARGEST):
            self.assertEqual(ask(*FOUR, walk(), step(w), step(0))[-2:], [[-1], [0]])
        self.assertEqual(ask(*[walk()] * 4, step(4), step(LARGEST))[4:], [[-1], [-1]])

    def test_no_blocks(self):
        self.assertEqual(ask(walk(), step(), step()), [[0], [-4], [-1]])

    def test_an_end_is_an_end_though_blocks_come_later(self):
        self.assertEqual(ask(begin(9), walk(), step(), take(3), step(), walk(), step())[1:],
                         [[0], [-4], [0], [-1], [0], [0]])

    def test_a_walk_that_has_told_the_last_block_is_still_under_way(self):
        self.assertEqual(ask(begin(9), take(3), walk(), step(), take(3), step(), walk(), step(0), walk())[2:],
                         [[0], [0], [3], [3], [1], [-4], [0]])

    def test_walks_go_each_by_itself(self):
        self.assertEqual(ask(*FOUR, walk(), walk(5), walk(12), step(1), step(0), step(2), step(0), step(2), step(1),
                             step(1), step(0))[8:], [[8], [0], [12], [4], [-4], [12], [-4], [8]])

    def test_blocks_of_0_bytes_side_by_side(self):
        self.assertEqual(ask(begin(3), take(0), take(0), take(0), walk(), *[step()] * 4)[5:], [[0], [1], [2], [-4]])

    def test_the_same_as_next_from_place_to_place(self):
        line = (begin(50, 3), take(7), take(0), take(9, 8), take(3), give(7))
        place = 0
        steps = 0
        while True:
            steps += 1
            address = last(*line, next_from(place))
            self.assertEqual(last(*line, walk(), *[step()] * steps), address)
            if address == [-4]:
                break
            place = address[0] + 1
        self.assertEqual(steps, 4)


class Between(unittest.TestCase):
    """Other calls between the steps: a walk tells what's there when it comes there."""

    def behind(self, *calls):
        """The steps behind two that told 0 and 4, and behind the calls."""
        given = ask(*FOUR, walk(), step(), step(), *calls, *[step()] * 6)
        self.assertEqual(given[5:8], [[0], [0], [4]])
        told = [answer[0] for answer in given[-6:]]
        return told[:told.index(-4)]

    def test_nothing(self):
        self.assertEqual(self.behind(), [8, 12])

    def test_give(self):
        self.assertEqual(self.behind(give(8)), [12])
        self.assertEqual(self.behind(give(12)), [8])
        self.assertEqual(self.behind(give(8), give(12)), [])
        self.assertEqual(self.behind(give(4), give(0)), [8, 12])

    def test_take(self):
        self.assertEqual(self.behind(take(4)), [8, 12, 16])
        self.assertEqual(self.behind(give(0), take(2), take(2)), [8, 12])
        self.assertEqual(self.behind(give(8), take(1), take(1), take(1)), [8, 9, 10, 12])
        # Taken in the reach of what was the block told last, yet behind its address.
        self.assertEqual(self.behind(give(4), take(1), take(3)), [5, 8, 12])
        # Taken anew at the very address told last: the walk is behind it.
        self.assertEqual(self.behind(give(4), take(4)), [8, 12])

    def test_resize(self):
        self.assertEqual(self.behind(resize(4, 1), take(1), take(2)), [5, 6, 8, 12])
        self.assertEqual(self.behind(resize(4, 5)), [8, 12, 16])
        self.assertEqual(self.behind(resize(8, 9)), [12, 16])
        self.assertEqual(self.behind(resize(12, 20)), [8, 12])
        # It goes down to 0, where the walk has been.
        self.assertEqual(self.behind(give(0), give(4), resize(8, 9)), [12])
        self.assertEqual(self.behind(give(0), give(4), resize(8, 12), resize(12, 28)), [12])

    def test_pack(self):
        self.assertEqual(self.behind(pack()), [8, 12])
        self.assertEqual(self.behind(give(0), pack()), [8])
        self.assertEqual(self.behind(give(0), give(4), pack()), [])
        self.assertEqual(self.behind(resize(0, 3), pack()), [7, 11])
        self.assertEqual(self.behind(resize(0, 1), resize(4, 1), pack()), [6])

    def test_leave(self):
        self.assertEqual(self.behind(enter(), take(4), take(4), leave()), [8, 12])
        self.assertEqual(self.behind(enter(), take(4), take(4), keep(20), leave()), [8, 12, 20])
        line = (begin(40), take(4), enter(), take(4), take(4), walk(), step())
        self.assertEqual(ask(*line, leave(), step(), step())[-3:], [[2], [-4], [-1]])

    def test_calls_that_are_no_matter(self):
        self.assertEqual(self.behind(begin(0), counts(), walk(), step(1), write(8, 0, [1]), next_from(0), step(4)),
                         [8, 12])

    def test_open_ends_all_walks(self):
        for w in range(4):
            self.assertEqual(last(*FOUR, *[walk()] * 4, begin(40), step(w)), [-1])
        self.assertEqual(ask(*FOUR, *[walk(3)] * 4, begin(40), take(1), walk(), walk(), step())[-3:], [[0], [1], [0]])

    def test_a_refused_open_ends_none(self):
        self.assertEqual(ask(*FOUR, walk(), step(), begin(2049), step())[-2:], [[-1], [4]])


if __name__ == "__main__":
    unittest.main()
