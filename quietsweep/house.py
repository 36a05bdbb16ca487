"""Answers a list of calls about one house, which is new."""

from quietsweep.thread_calls import THREAD_CALLS
from quietsweep.threads import House


def ask(house, call, numbers):
    """Hand the call as many numbers as it has."""
    if len(numbers) == 2:
        return call(house, numbers[0], numbers[1])
    if len(numbers) == 3:
        return call(house, numbers[0], numbers[1], numbers[2])
    return call(house, numbers[0], numbers[1], numbers[2], numbers[3])


def answers(calls):
    """For each call, in order: how many numbers are answered, then these."""
    house = House()
    given = []
    at = 0
    while at < len(calls):
        entry = THREAD_CALLS[calls[at]]
        behind = at + 1 + entry[0]
        given.append(1)
        given.append(ask(house, entry[1], calls[at + 1:behind]))
        at = behind
    return given
