"""The numbers of the refusals, and what is beyond the bounds that all calls share."""

from quietsweep.roots import NAMES, REGISTERS, THREADS

OUT_OF_BOUNDS = -1
NO_THING = -2
NO_FIELD = -3
NOT_WEAK = -3
NO_ROOM = -8
NOT_AT_REST = -8


def no_thread(thread):
    return not 1 <= thread <= THREADS


def no_slot(thread, r):
    """Whether there is no such thread, or it has no register r."""
    return no_thread(thread) or not 0 <= r < REGISTERS


def no_name(name):
    return not 0 <= name < NAMES
