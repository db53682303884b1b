"""A block of lent ground, and the places that it takes."""


class Block:
    def __init__(self, address, n, alignment, group):
        self.address = address
        self.n = n
        self.alignment = alignment
        self.group = group


def reach_of(n):
    """How many places a block of n bytes takes."""
    # A block of no bytes takes a place too: no two blocks share an address.
    return max(n, 1)


def place_behind(block):
    """The first place behind the block's reach."""
    return block.address + reach_of(block.n)
