"""Reads a list of calls on one ground, and answers it."""

from lentground.calls import answer_call
from lentground.keeper import Ground

HOW_MANY_NUMBERS = {1: 2, 2: 2, 3: 2, 4: 2, 5: 1, 6: 1, 7: 1, 8: 1, 9: 1, 10: 0}


def answers(calls):
    """The answers to the calls, one behind another, each with how many numbers it has ahead of it."""
    ground = Ground()
    given = []
    at = 0
    while at < len(calls):
        number = calls[at]
        end = at + 1 + HOW_MANY_NUMBERS[number]
        answer = answer_call(ground, number, calls[at + 1:end])
        given.append(len(answer))
        given.extend(answer)
        at = end
    return given
