"""The calls, each by its number: what it changes on the ground, and its answer.

Each takes the ground and the list of the call's numbers, and answers a list of numbers.
"""

from lentground.block import Block, place_behind, reach_of
from lentground.rows import least_multiple, row_length
from lentground.rule import LAST_RULE, choose_address

WRONG_NUMBER = -1
NO_BLOCK = -2
NO_ROOM = -3
NONE_THERE = -4

MOST_PLACES = 2048
ALIGNMENTS = (1, 2, 4, 8, 16, 32, 64, 128, 256)
GREATEST_DEPTH = 8
MOST_WALKS = 4


def answer_open(ground, numbers):
    size = numbers[0]
    rule = numbers[1]
    if size < 1 or size > MOST_PLACES or rule > LAST_RULE:
        return [WRONG_NUMBER]
    ground.begin(size, rule)
    return [0]


def answer_take(ground, numbers):
    n = numbers[0]
    alignment = numbers[1]
    if alignment not in ALIGNMENTS:
        return [WRONG_NUMBER]
    address = choose_address(ground.rows(), ground.rule, ground.mark, reach_of(n), alignment)
    if address is None:
        return [NO_ROOM]
    ground.settle(Block(address, n, alignment, ground.depth))
    return [address]


def answer_zero(ground, numbers):
    answer = answer_take(ground, numbers)
    # Only a block that was taken is known to be no longer than the ground.
    if answer[0] >= 0:
        ground.put(answer[0], [0] * numbers[0])
    return answer


def address_resized(ground, block, n):
    """Where the block lies once it has n bytes; None if it fits nowhere."""
    rows = ground.rows_without(block.address)
    # Its own places count as free here, so a block that shrinks always stays.
    for row in rows:
        if row.first <= block.address and block.address + reach_of(n) <= row.end:
            return block.address
    return choose_address(rows, ground.rule, ground.mark, reach_of(n), block.alignment)


def answer_resize(ground, numbers):
    n = numbers[1]
    block = ground.blocks.get(numbers[0])
    if block is None:
        return [NO_BLOCK]
    address = address_resized(ground, block, n)
    if address is None:
        return [NO_ROOM]
    # Copied ahead of the move: the new place may meet the old one.
    kept = ground.bytes_from(block.address, min(block.n, n))
    ground.blocks.pop(block.address)
    ground.settle(Block(address, n, block.alignment, block.group))
    ground.put(address, kept)
    return [address]


def answer_give(ground, numbers):
    if numbers[0] not in ground.blocks:
        return [NO_BLOCK]
    ground.blocks.pop(numbers[0])
    return [0]


def answer_size(ground, numbers):
    block = ground.blocks.get(numbers[0])
    if block is None:
        return [NO_BLOCK]
    return [block.n, block.alignment, block.group]


def answer_of(ground, numbers):
    place = numbers[0]
    for block in ground.blocks_in_order():
        if block.address <= place and place < place_behind(block):
            return [block.address]
    return [NONE_THERE]


def answer_next(ground, numbers):
    address = ground.address_from(numbers[0])
    if address is None:
        return [NONE_THERE]
    return [address]


def answer_most(ground, numbers):
    alignment = numbers[0]
    if alignment not in ALIGNMENTS:
        return [WRONG_NUMBER]
    most = 0
    for row in ground.rows():
        most = max(most, row.end - least_multiple(row.first, alignment))
    # A block of no bytes takes a place too: where not one byte fits, neither does it.
    if most == 0:
        return [NO_ROOM]
    return [most]


def answer_rows(ground, numbers):
    rows = ground.rows()
    answer = [len(rows)]
    for row in rows:
        answer.append(row.first)
        answer.append(row_length(row))
    return answer


def answer_enter(ground, numbers):
    if ground.depth == GREATEST_DEPTH:
        return [NO_ROOM]
    ground.depth = ground.depth + 1
    return [ground.depth]


def answer_leave(ground, numbers):
    if ground.depth == 0:
        return [NONE_THERE]
    leaving = ground.innermost_blocks()
    for block in leaving:
        ground.blocks.pop(block.address)
    ground.depth = ground.depth - 1
    return [len(leaving)]


def answer_keep(ground, numbers):
    block = ground.blocks.get(numbers[0])
    if block is None:
        return [NO_BLOCK]
    if block.group == 0:
        return [NONE_THERE]
    block.group = block.group - 1
    return [block.group]


def answer_counts(ground, numbers):
    blocks = ground.blocks_in_order()
    lent = sum([block.n for block in blocks])
    return [len(blocks), lent, ground.depth, len(ground.innermost_blocks()), ground.mark]


def has_bytes(block, first, how_many):
    """Whether so many bytes from the one with the number first on are all the block's."""
    # No bytes at all may begin at the block's end too, but not beyond it.
    return first + how_many <= block.n


def answer_write(ground, numbers):
    block = ground.blocks.get(numbers[0])
    first = numbers[1]
    # Behind these stands how many bytes there are, then the bytes.
    new_bytes = numbers[3:]
    if block is None:
        return [NO_BLOCK]
    if not has_bytes(block, first, len(new_bytes)):
        return [WRONG_NUMBER]
    ground.put(block.address + first, new_bytes)
    return [0]


def answer_read(ground, numbers):
    block = ground.blocks.get(numbers[0])
    first = numbers[1]
    how_many = numbers[2]
    if block is None:
        return [NO_BLOCK]
    if not has_bytes(block, first, how_many):
        return [WRONG_NUMBER]
    return [how_many] + ground.bytes_from(block.address + first, how_many)


def answer_pack(ground, numbers):
    ground.pack()
    return [len(ground.blocks)] + sorted(ground.blocks)


def answer_walk(ground, numbers):
    for walk in range(MOST_WALKS):
        if walk not in ground.walks:
            ground.walks[walk] = numbers[0]
            return [walk]
    return [NO_ROOM]


def answer_step(ground, numbers):
    walk = numbers[0]
    if walk not in ground.walks:
        return [WRONG_NUMBER]
    address = ground.address_from(ground.walks[walk])
    if address is None:
        ground.walks.pop(walk)
        return [NONE_THERE]
    ground.walks[walk] = address + 1
    return [address]


def answer_blocks(ground, numbers):
    blocks = ground.blocks_in_order()
    answer = [len(blocks)]
    for block in blocks:
        answer.extend([block.address, block.n, block.alignment, block.group])
    return answer


CALLS = {
    1: answer_open,
    2: answer_take,
    3: answer_zero,
    4: answer_resize,
    5: answer_give,
    6: answer_size,
    7: answer_of,
    8: answer_next,
    9: answer_most,
    10: answer_rows,
    11: answer_enter,
    12: answer_leave,
    13: answer_keep,
    14: answer_counts,
    15: answer_write,
    16: answer_read,
    17: answer_pack,
    18: answer_walk,
    19: answer_step,
    20: answer_blocks,
}


def answer_call(ground, number, numbers):
    return CALLS[number](ground, numbers)
