"""The calls, each by its number: what it changes on the ground, and its answer.

Each takes the ground and the list of the call's numbers, and answers a list of numbers.
"""

from lentground.block import Block, place_behind, reach_of
from lentground.rows import least_multiple, row_length
from lentground.rule import LAST_RULE, choose_address

WRONG_NUMBER = -1
NO_BLOCK = -2
NO_ROOM = -3
NONE_THERE = -4

MOST_PLACES = 2048
ALIGNMENTS = (1, 2, 4, 8, 16, 32, 64, 128, 256)


def answer_open(ground, numbers):
    size = numbers[0]
    rule = numbers[1]
    if size < 1 or size > MOST_PLACES or rule > LAST_RULE:
        return [WRONG_NUMBER]
    ground.begin(size, rule)
    return [0]


def answer_take(ground, numbers):
    n = numbers[0]
    alignment = numbers[1]
    if alignment not in ALIGNMENTS:
        return [WRONG_NUMBER]
    address = choose_address(ground.rows(), ground.rule, ground.mark, reach_of(n), alignment)
    if address is None:
        return [NO_ROOM]
    ground.settle(Block(address, n, alignment, ground.depth))
    return [address]


def answer_zero(ground, numbers):
    answer = answer_take(ground, numbers)
    # Only a block that was taken is known to be no longer than the ground.
    if answer[0] >= 0:
        ground.put(answer[0], [0] * numbers[0])
    return answer


def address_resized(ground, block, n):
    """Where the block lies once it has n bytes; None if it fits nowhere."""
    rows = ground.rows_without(block.address)
    # Its own places count as free here, so a block that shrinks always stays.
    for row in rows:
        if row.first <= block.address and block.address + reach_of(n) <= row.end:
            return block.address
    return choose_address(rows, ground.rule, ground.mark, reach_of(n), block.alignment)


def answer_resize(ground, numbers):
    n = numbers[1]
    block = ground.blocks.get(numbers[0])
    if block is None:
        return [NO_BLOCK]
    address = address_resized(ground, block, n)
    if address is None:
        return [NO_ROOM]
    # Copied ahead of the move: the new place may meet the old one.
    kept = ground.store[block.address:block.address + min(block.n, n)]
    ground.blocks.pop(block.address)
    ground.settle(Block(address, n, block.alignment, block.group))
    ground.put(address, kept)
    return [address]


def answer_give(ground, numbers):
    if numbers[0] not in ground.blocks:
        return [NO_BLOCK]
    ground.blocks.pop(numbers[0])
    return [0]


def answer_size(ground, numbers):
    block = ground.blocks.get(numbers[0])
    if block is None:
        return [NO_BLOCK]
    return [block.n, block.alignment, block.group]


def answer_of(ground, numbers):
    place = numbers[0]
    for block in ground.blocks_in_order():
        if block.address <= place and place < place_behind(block):
            return [block.address]
    return [NONE_THERE]


def answer_next(ground, numbers):
    for block in ground.blocks_in_order():
        if block.address >= numbers[0]:
            return [block.address]
    return [NONE_THERE]


def answer_most(ground, numbers):
    alignment = numbers[0]
    if alignment not in ALIGNMENTS:
        return [WRONG_NUMBER]
    most = 0
    for row in ground.rows():
        most = max(most, row.end - least_multiple(row.first, alignment))
    # A block of no bytes takes a place too: where not one byte fits, neither does it.
    if most == 0:
        return [NO_ROOM]
    return [most]


def answer_rows(ground, numbers):
    rows = ground.rows()
    answer = [len(rows)]
    for row in rows:
        answer.append(row.first)
        answer.append(row_length(row))
    return answer


CALLS = {
    1: answer_open,
    2: answer_take,
    3: answer_zero,
    4: answer_resize,
    5: answer_give,
    6: answer_size,
    7: answer_of,
    8: answer_next,
    9: answer_most,
    10: answer_rows,
}


def answer_call(ground, number, numbers):
    return CALLS[number](ground, numbers)
