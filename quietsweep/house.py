"""Answers a list of calls about one house, which is new."""

from quietsweep.collector_calls import COLLECTOR_CALLS
from quietsweep.report_calls import REPORT_CALLS
from quietsweep.thread_calls import THREAD_CALLS
from quietsweep.threads import House


def entry_of(number):
    """How many whole numbers the call of a number has, and what answers it."""
    if number < len(THREAD_CALLS):
        return THREAD_CALLS[number]
    behind_threads = number - len(THREAD_CALLS)
    if behind_threads < len(COLLECTOR_CALLS):
        return COLLECTOR_CALLS[behind_threads]
    return REPORT_CALLS[behind_threads - len(COLLECTOR_CALLS)]


def ask(house, call, numbers):
    """Hand the call as many numbers as it has."""
    if len(numbers) == 0:
        return call(house)
    if len(numbers) == 1:
        return call(house, numbers[0])
    if len(numbers) == 2:
        return call(house, numbers[0], numbers[1])
    if len(numbers) == 3:
        return call(house, numbers[0], numbers[1], numbers[2])
    return call(house, numbers[0], numbers[1], numbers[2], numbers[3])


def answers(calls):
    """For each call, in order: how many numbers are answered, then these."""
    house = House()
    given = []
    at = 0
    while at < len(calls):
        entry = entry_of(calls[at])
        behind = at + 1 + entry[0]
        told = ask(house, entry[1], calls[at + 1:behind])
        if isinstance(told, int):
            told = [told]
        given.append(len(told))
        given.extend(told)
        at = behind
    return given
