"""Where a block comes to lie, by the ground's rule."""

from lentground.rows import greatest_in_row, least_in_row, row_length

GREATEST_ADDRESS = 1
SHORTEST_ROW = 2
LONGEST_ROW = 3
BEHIND_MARK = 4
LAST_RULE = 4


def least_address(rows, reach, alignment, mark):
    for row in rows:
        address = least_in_row(row, reach, alignment, mark)
        if address is not None:
            return address
    return None


def greatest_address(rows, reach, alignment):
    for row in reversed(rows):
        address = greatest_in_row(row, reach, alignment)
        if address is not None:
            return address
    return None


def rows_that_fit(rows, reach, alignment):
    return [row for row in rows if least_in_row(row, reach, alignment, 0) is not None]


def rows_to_try(rows, rule, reach, alignment):
    """The rows that the rule leaves to choose from, in order."""
    if rule != SHORTEST_ROW and rule != LONGEST_ROW:
        return rows
    fitting = rows_that_fit(rows, reach, alignment)
    if len(fitting) == 0:
        return fitting
    # Of rows of one length min and max keep the first they meet, as the rules ask.
    if rule == SHORTEST_ROW:
        return [min(fitting, key=row_length)]
    return [max(fitting, key=row_length)]


def choose_address(rows, rule, mark, reach, alignment):
    """The address at which a block with this reach comes to lie; None if it fits nowhere."""
    if rule == GREATEST_ADDRESS:
        return greatest_address(rows, reach, alignment)
    if rule == BEHIND_MARK:
        address = least_address(rows, reach, alignment, mark)
        if address is not None:
            return address
    return least_address(rows_to_try(rows, rule, reach, alignment), reach, alignment, 0)
