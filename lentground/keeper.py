"""The object that the calls are made on: a ground with its blocks."""

from lentground.block import place_behind
from lentground.rows import least_multiple, rows_between

FIRST_SIZE = 64
FIRST_RULE = 0


class Ground:
    def __init__(self):
        self.begin(FIRST_SIZE, FIRST_RULE)

    def begin(self, size, rule):
        """Makes it a new ground, of which nothing is lent."""
        self.size = size
        self.rule = rule
        self.store = [0] * size
        self.blocks = {}
        self.depth = 0
        self.mark = 0
        # Of each walk under way, by its number, the place where it is.
        self.walks = {}

    def blocks_in_order(self):
        return [self.blocks[address] for address in sorted(self.blocks)]

    def innermost_blocks(self):
        return [block for block in self.blocks_in_order() if block.group == self.depth]

    def address_from(self, place):
        """The least address of a block that's the place or more; None if there's none."""
        for address in sorted(self.blocks):
            if address >= place:
                return address
        return None

    def rows(self):
        return rows_between(self.size, self.blocks_in_order())

    def rows_without(self, left_out):
        """The rows as if the block at the address left_out weren't there."""
        others = [block for block in self.blocks_in_order() if block.address != left_out]
        return rows_between(self.size, others)

    def settle(self, block):
        """Lets a block lie at its address; the mark goes behind it."""
        self.blocks[block.address] = block
        self.mark = place_behind(block)

    def bytes_from(self, address, how_many):
        """A copy of so many bytes from the address on."""
        return self.store[address:address + how_many]

    def put(self, address, new_bytes):
        """Writes the bytes from the address on."""
        for i, value in enumerate(new_bytes):
            self.store[address + i] = value

    def pack(self):
        """Moves each block, by rising addresses, as low as the one before it lets it."""
        packed = {}
        behind = 0
        for block in self.blocks_in_order():
            address = least_multiple(behind, block.alignment)
            # No block goes up, so none writes over one that has yet to be moved.
            self.put(address, self.bytes_from(block.address, block.n))
            block.address = address
            packed[address] = block
            behind = place_behind(block)
        self.blocks = packed
