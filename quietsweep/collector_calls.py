"""The calls that set the collector going: each is asked of a house and answers one number."""

from quietsweep.collector import RESTS
from quietsweep.heap import REGIONS
from quietsweep.refusals import NOT_AT_REST, OUT_OF_BOUNDS

MOST_STEPS = 200
MOST_PAY = 20


def call_start(house):
    if house.collector.doing != RESTS:
        return NOT_AT_REST
    house.collector.begin()
    return len(house.collector.to_look_at)


def call_step(house, count):
    if count > MOST_STEPS:
        return OUT_OF_BOUNDS
    house.collector.steps(count)
    return house.collector.doing


def call_finish(house):
    house.collector.finish()
    return house.collector.rounds


def call_pace(house, pay, low):
    if pay > MOST_PAY or low > REGIONS:
        return OUT_OF_BOUNDS
    house.collector.pay = pay
    house.collector.low = low
    return 0


# From start's number on: how many whole numbers the call has, and what answers it.
COLLECTOR_CALLS = (
    (0, call_start),
    (1, call_step),
    (0, call_finish),
    (2, call_pace),
)
