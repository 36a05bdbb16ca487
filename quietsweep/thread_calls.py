"""The calls of threads: each is asked of a house and answers one number, below 0 if it refuses.

A call asks all its questions ahead of its first change, so that a refusal leaves all as it was; only whether there
is room is known no sooner than allocating has paid.
"""

from quietsweep.heap import LAST_WORDS, NOTHING, PLAIN, WEAK
from quietsweep.refusals import NO_FIELD, NO_ROOM, NO_THING, NOT_WEAK, OUT_OF_BOUNDS, no_name, no_slot

MOST_FIELDS = 6
MOST_VALUE = 1000000


def no_field(thing, i):
    """Whether threads can't come to field i; what a weak one is for is not theirs to get or put."""
    return thing.kind == WEAK or not 0 <= i < len(thing.fields)


def call_make(house, thread, target, fields, kind):
    if no_slot(thread, target) or fields > MOST_FIELDS or kind not in (PLAIN, LAST_WORDS):
        return OUT_OF_BOUNDS
    place = house.make(kind, fields)
    if place == NOTHING:
        return NO_ROOM
    return house.hold(thread, target, place)


def call_weak(house, thread, target, q):
    if no_slot(thread, target) or no_slot(thread, q):
        return OUT_OF_BOUNDS
    if house.thing_in(thread, q) is None:
        return NO_THING
    place = house.make(WEAK, 1)
    if place == NOTHING:
        return NO_ROOM
    # Behind the paying, which may have moved that thing; ahead of the register, which may be q itself.
    house.heap.things[place].fields[0] = house.place_in(thread, q)
    return house.hold(thread, target, place)


def field_refusal(house, thread, q, i, r):
    """What refuses a call about field i of the thing in register q, and register r; 0 if nothing does."""
    if no_slot(thread, q) or no_slot(thread, r):
        return OUT_OF_BOUNDS
    thing = house.thing_in(thread, q)
    if thing is None:
        return NO_THING
    if no_field(thing, i):
        return NO_FIELD
    return 0


def call_get(house, thread, target, q, i):
    refusal = field_refusal(house, thread, q, i, target)
    if refusal < 0:
        return refusal
    return house.hold(thread, target, house.thing_in(thread, q).fields[i])


def call_put(house, thread, q, i, r):
    refusal = field_refusal(house, thread, q, i, r)
    if refusal < 0:
        return refusal
    thing = house.thing_in(thread, q)
    house.collector.shade_while_marking(thing.fields[i])
    thing.fields[i] = house.place_in(thread, r)
    return house.number_in(thread, r)


def call_copy(house, thread, target, q):
    if no_slot(thread, target) or no_slot(thread, q):
        return OUT_OF_BOUNDS
    return house.hold(thread, target, house.place_in(thread, q))


def call_drop(house, thread, target):
    if no_slot(thread, target):
        return OUT_OF_BOUNDS
    return house.hold(thread, target, NOTHING)


def call_load(house, thread, target, name):
    if no_slot(thread, target) or no_name(name):
        return OUT_OF_BOUNDS
    return house.hold(thread, target, house.roots.names[name])


def call_save(house, thread, name, r):
    if no_name(name) or no_slot(thread, r):
        return OUT_OF_BOUNDS
    house.roots.names[name] = house.place_in(thread, r)
    return house.number_in(thread, r)


def call_same(house, thread, r, q):
    if no_slot(thread, r) or no_slot(thread, q):
        return OUT_OF_BOUNDS
    return 1 if house.number_in(thread, r) == house.number_in(thread, q) else 0


def call_write(house, thread, r, value):
    if no_slot(thread, r) or value > MOST_VALUE:
        return OUT_OF_BOUNDS
    thing = house.thing_in(thread, r)
    if thing is None:
        return NO_THING
    before = thing.value
    thing.value = value
    return before


def call_read(house, thread, r):
    if no_slot(thread, r):
        return OUT_OF_BOUNDS
    thing = house.thing_in(thread, r)
    if thing is None:
        return NO_THING
    return thing.value


def call_look(house, thread, target, q):
    if no_slot(thread, target) or no_slot(thread, q):
        return OUT_OF_BOUNDS
    thing = house.thing_in(thread, q)
    if thing is None:
        return NO_THING
    if thing.kind != WEAK:
        return NOT_WEAK
    house.collector.shade_while_marking(thing.fields[0])
    return house.hold(thread, target, thing.fields[0])


def call_words(house, thread, target):
    if no_slot(thread, target):
        return OUT_OF_BOUNDS
    if len(house.roots.waiting) == 0:
        return house.hold(thread, target, NOTHING)
    return house.hold(thread, target, house.roots.waiting.pop(0))


# By the call's number: how many whole numbers it has, and what answers it.
THREAD_CALLS = (
    (4, call_make),
    (3, call_weak),
    (4, call_get),
    (4, call_put),
    (3, call_copy),
    (2, call_drop),
    (3, call_load),
    (3, call_save),
    (3, call_same),
    (3, call_write),
    (2, call_read),
    (3, call_look),
    (2, call_words),
)
