"""The rows: free places one behind another, as many as there are."""

from lentground.block import place_behind


class Row:
    """The free places from first up to, but without, end."""

    def __init__(self, first, end):
        self.first = first
        self.end = end


def row_length(row):
    return row.end - row.first


def rows_between(size, blocks):
    """The rows, in order, that blocks told by rising addresses leave free."""
    rows = []
    first = 0
    for block in blocks:
        if first < block.address:
            rows.append(Row(first, block.address))
        first = place_behind(block)
    if first < size:
        rows.append(Row(first, size))
    return rows


def least_multiple(place, alignment):
    """The least multiple of the alignment that isn't below the place."""
    return (place + alignment - 1) // alignment * alignment


def least_in_row(row, reach, alignment, mark):
    """The least address in the row, at or behind the mark, at which a reach fits; None if there's none."""
    address = least_multiple(max(row.first, mark), alignment)
    if address + reach > row.end:
        return None
    return address


def greatest_in_row(row, reach, alignment):
    """The greatest address in the row at which a reach fits; None if there's none."""
    address = (row.end - reach) // alignment * alignment
    # This holds back a reach longer than the row too: its address would lie ahead of the row.
    if address < row.first:
        return None
    return address
