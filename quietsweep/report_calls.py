"""The calls that tell how all is and change nothing: each is asked of a house and answers a list of numbers."""

from quietsweep.heap import REGIONS
from quietsweep.refusals import OUT_OF_BOUNDS, no_thread


def numbers_at(house, places):
    """The numbers of the things of these places."""
    return [house.heap.number_at(place) for place in places]


def call_regs(house, thread):
    if no_thread(thread):
        return [OUT_OF_BOUNDS]
    return numbers_at(house, house.roots.registers[thread] + house.roots.names)


def told_of_thing(house, place):
    thing = house.heap.things[place]
    marked = 1 if thing.marked else 0
    told = [thing.number, place, thing.kind, thing.value, marked, len(thing.fields)]
    return told + numbers_at(house, thing.fields)


def call_things(house):
    places = house.heap.unmoved()
    told = [len(places)]
    for place in places:
        told.extend(told_of_thing(house, place))
    return told


def call_regions(house):
    told = [house.heap.current]
    for region in range(1, REGIONS + 1):
        told.append(house.heap.given_out[region])
        told.append(house.heap.words_lying_in(region))
    return told


def call_work(house):
    collector = house.collector
    waiting = numbers_at(house, house.roots.waiting)
    told = [collector.doing, len(collector.to_look_at), len(collector.to_do)]
    told.append(len(collector.to_empty))
    told.extend(collector.to_empty)
    told.append(len(waiting))
    told.extend(waiting)
    free = len(house.heap.free_regions())
    return told + [house.heap.made, free, collector.pauses, collector.longest, collector.rounds]


# From regs' number on: how many whole numbers the call has, and what answers it.
REPORT_CALLS = (
    (1, call_regs),
    (0, call_things),
    (0, call_regions),
    (0, call_work),
)
