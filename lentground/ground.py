"""Reads a list of calls on one ground, and answers it."""

from lentground.calls import answer_call
from lentground.keeper import Ground

WRITE = 15

# Of write: up to how many bytes its list has.
HOW_MANY_NUMBERS = {
    1: 2, 2: 2, 3: 2, 4: 2, 5: 1, 6: 1, 7: 1, 8: 1, 9: 1, 10: 0,
    11: 0, 12: 0, 13: 1, 14: 0, 15: 3, 16: 3, 17: 0, 18: 1, 19: 1, 20: 0,
}


def end_of_call(calls, at):
    """Where the call that begins at this index ends: the index behind its last number."""
    end = at + 1 + HOW_MANY_NUMBERS[calls[at]]
    if calls[at] == WRITE:
        return end + calls[end - 1]
    return end


def answers(calls):
    """The answers to the calls, one behind another, each with how many numbers it has ahead of it."""
    ground = Ground()
    given = []
    at = 0
    while at < len(calls):
        end = end_of_call(calls, at)
        answer = answer_call(ground, calls[at], calls[at + 1:end])
        given.append(len(answer))
        given.extend(answer)
        at = end
    return given
