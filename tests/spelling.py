"""How the tests spell calls, and read what is answered."""

from quietsweep.house import answers

MOST = 4294967295

# How many whole numbers the call of each number has.
SIZES = (4, 3, 4, 4, 3, 2, 3, 3, 3, 3, 2)


def make(thread, register, fields=0, sort=0):
    return [0, thread, register, fields, sort]


def weak(thread, register, q):
    return [1, thread, register, q]


def get(thread, register, q, i):
    return [2, thread, register, q, i]


def put(thread, q, i, r):
    return [3, thread, q, i, r]


def copy(thread, register, q):
    return [4, thread, register, q]


def drop(thread, register):
    return [5, thread, register]


def load(thread, register, name):
    return [6, thread, register, name]


def save(thread, name, r):
    return [7, thread, name, r]


def same(thread, r, q):
    return [8, thread, r, q]


def write(thread, r, v):
    return [9, thread, r, v]


def read(thread, r):
    return [10, thread, r]


def flat(calls):
    """The list that is handed in for these calls."""
    return [number for call in calls for number in call]


def split(given):
    """The answers, a list for each call."""
    parts = []
    at = 0
    while at < len(given):
        behind = at + 1 + given[at]
        part = given[at + 1:behind]
        if len(part) != given[at]:
            raise AssertionError("fewer numbers than told")
        parts.append(part)
        at = behind
    return parts


def asked(calls):
    """What each of the calls answers, about one house; each of them answers one number."""
    parts = split(answers(flat(calls)))
    if [len(part) for part in parts] != [1] * len(calls):
        raise AssertionError("not one number for each call")
    return [part[0] for part in parts]


def last(calls):
    return asked(calls)[-1]


def survey():
    """Calls that show all that threads can come to: what is held, the values, the fields, and the room left.

    They change the house, so they stand at a list's end.
    """
    calls = []
    for thread in (1, 2, 3):
        for r in range(4):
            calls += [copy(thread, r, r), read(thread, r)]
    for name in range(4):
        calls.append(load(3, 3, name))
    for r in (0, 1, 2):
        for i in range(7):
            calls.append(get(1, 3, r, i))
    return calls + [make(2, 0)] * 64


def some_call(source):
    """A call that is mostly within the bounds, from a random source."""
    kind = source.choice((0, 0, 0, 1, 2, 2, 3, 3, 3, 4, 5, 6, 7, 8, 9, 10))
    numbers = [source.choice((1, 1, 1, 2, 3))] + [source.randrange(4) for place in range(SIZES[kind] - 1)]
    if kind == 0:
        numbers[2] = source.choice((0, 0, 1, 2, 3, 6, 7))
        numbers[3] = source.choice((0, 0, 2))
    if kind == 9:
        numbers[2] = source.choice((0, 7, 1000000, 1000001))
    if source.randrange(12) == 0:
        numbers[source.randrange(len(numbers))] = source.choice((0, 4, 7, MOST))
    return [kind] + numbers
