"""How the tests spell calls, draw them, and read what is answered."""

from quietsweep.house import answers

MOST = 4294967295

NAMES = (
    "make", "weak", "get", "put", "copy", "drop", "load", "save", "same", "write", "read", "look", "words", "start",
    "step", "finish", "pace", "regs", "things", "regions", "work",
)

# How many whole numbers the call of each number has.
SIZES = (4, 3, 4, 4, 3, 2, 3, 3, 3, 3, 2, 3, 2, 0, 1, 0, 2, 1, 0, 0, 0)

RESTS, MARKS, SWEEPS, MOVES, HEALS = range(5)


def make(thread, register, fields=0, sort=0):
    return [0, thread, register, fields, sort]


def weak(thread, register, q):
    return [1, thread, register, q]


def get(thread, register, q, i):
    return [2, thread, register, q, i]


def put(thread, q, i, r):
    return [3, thread, q, i, r]


def copy(thread, register, q):
    return [4, thread, register, q]


def drop(thread, register):
    return [5, thread, register]


def load(thread, register, name):
    return [6, thread, register, name]


def save(thread, name, r):
    return [7, thread, name, r]


def same(thread, r, q):
    return [8, thread, r, q]


def write(thread, r, v):
    return [9, thread, r, v]


def read(thread, r):
    return [10, thread, r]


def look(thread, register, q):
    return [11, thread, register, q]


def words(thread, register):
    return [12, thread, register]


def start():
    return [13]


def step(n=1):
    return [14, n]


def finish():
    return [15]


def pace(k, low):
    return [16, k, low]


def regs(thread):
    return [17, thread]


def things():
    return [18]


def regions():
    return [19]


def work():
    return [20]


def flat(calls):
    """The list that is handed in for these calls."""
    return [number for call in calls for number in call]


def split(given):
    """The answers, a list for each call."""
    parts = []
    at = 0
    while at < len(given):
        behind = at + 1 + given[at]
        part = given[at + 1:behind]
        if len(part) != given[at]:
            raise AssertionError("fewer numbers than told")
        parts.append(part)
        at = behind
    return parts


def told(calls):
    """What each of the calls answers, about one house: a list for each."""
    parts = split(answers(flat(calls)))
    if len(parts) != len(calls):
        raise AssertionError("not one answer for each call")
    return parts


def asked(calls):
    """What each of the calls answers, about one house; each of them answers one number."""
    parts = told(calls)
    if [len(part) for part in parts] != [1] * len(calls):
        raise AssertionError("not one number for each call")
    return [part[0] for part in parts]


def last(calls):
    """What the last of the calls answers, which is one number."""
    (number,) = told(calls)[-1]
    return number


def things_told(part):
    """What things answers, a tuple for each thing: number, place, sort, value, marked, fields."""
    found = []
    at = 1
    while at < len(part):
        fields = part[at + 6:at + 6 + part[at + 5]]
        found.append((*part[at:at + 5], fields))
        at += 6 + part[at + 5]
    if len(found) != part[0]:
        raise AssertionError("not as many things as told")
    return found


def regions_told(part):
    """What regions answers: the current one, and by region, how much is given out and how much is taken."""
    if len(part) != 17:
        raise AssertionError("not seventeen numbers")
    return part[0], {r: (part[2 * r - 1], part[2 * r]) for r in range(1, 9)}


def work_told(part):
    """What work answers, by the words for it."""
    to_empty = part[4:4 + part[3]]
    behind = 4 + part[3]
    waiting = part[behind + 1:behind + 1 + part[behind]]
    rest = part[behind + 1 + part[behind]:]
    made, free, pauses, longest, rounds = rest
    return {
        "doing": part[0], "grey": part[1], "todo": part[2], "to_empty": to_empty, "waiting": waiting, "made": made,
        "free": free, "pauses": pauses, "longest": longest, "rounds": rounds,
    }


def shown(calls):
    """How all is behind the calls: what things, regions and work tell, by their words."""
    parts = told(calls + [things(), regions(), work()])[-3:]
    return things_told(parts[0]), regions_told(parts[1]), work_told(parts[2])


def view():
    """Calls that tell all that can be asked, and change nothing."""
    return [regs(1), regs(2), regs(3), things(), regions(), work()]


def survey():
    """Calls behind which nothing of a house is hidden: what the collector has ahead of it, and the pace, too.

    They change the house, so they stand at a list's end.
    """
    calls = view()
    for turn in range(12):
        calls += [step(1), things(), work()]
    return calls + [make(3, 3, 0), work(), finish(), make(3, 3, 6)] + view() + [finish()] + view()


# Which calls a drawn list holds: the threads' and the collector's, few of the collector's, the house filled up,
# or all alike.
STYLES = (
    {0: 6, 1: 3, 2: 4, 3: 6, 4: 2, 5: 4, 6: 3, 7: 3, 8: 1, 9: 2, 10: 1, 11: 4, 12: 2, 13: 2, 14: 12, 15: 1, 18: 1,
     19: 1, 20: 1, 17: 1},
    {0: 9, 1: 2, 2: 4, 3: 8, 4: 2, 5: 4, 6: 3, 7: 3, 8: 1, 9: 1, 10: 1, 11: 2, 12: 1, 16: 1, 14: 3, 18: 1, 19: 1,
     20: 2, 17: 1},
    {0: 14, 1: 3, 3: 14, 2: 3, 5: 3, 6: 3, 7: 4, 13: 1, 14: 3, 15: 1, 11: 1, 12: 1, 18: 1, 19: 1, 20: 1},
    {number: 1 for number in range(21)},
)


def some_call(source, style=STYLES[3]):
    """A call that is mostly within the bounds, from a random source."""
    kind = source.choices(list(style), list(style.values()))[0]
    numbers = [source.choice((1, 1, 1, 2, 3))] + [source.randrange(4) for place in range(3)]
    numbers = numbers[:SIZES[kind]]
    if kind == 0:
        numbers[2] = source.choice((0, 0, 1, 2, 3, 4, 6, 7))
        numbers[3] = source.choice((0, 0, 2))
    if kind == 9:
        numbers[2] = source.choice((0, 7, 1000000, 1000001))
    if kind == 14:
        numbers[0] = source.choice((0, 1, 1, 1, 2, 3, 5, 9, 40, 200, 201))
    if kind == 16:
        numbers = [source.choice((0, 1, 1, 2, 3, 20, 21)), source.choice((0, 1, 3, 6, 7, 8, 9))]
    if numbers and source.randrange(20) == 0:
        numbers[source.randrange(len(numbers))] = source.choice((0, 4, 7, MOST))
    return [kind] + numbers


def some_list(source):
    """A list of calls, from a random source: 1 to 200 calls."""
    if source.randrange(5) == 0:
        return some_dead_list(source)
    style = source.choice(STYLES)
    calls = [some_call(source, style) for place in range(source.choice((1, 10, 60, 200, 200)))]
    if source.randrange(3) == 0:
        calls[0] = pace(source.choice((1, 1, 2, 3, 20)), source.choice((0, 1, 3, 5, 7, 8)))
    return calls


def some_dead_list(source):
    """A list in which things that hold one another are dropped together, and asked for while it sweeps."""
    calls = []
    while len(calls) < source.choice((30, 60, 100)):
        r = source.randrange(4)
        fields = source.choice((0, 1, 2, 4, 6, 6))
        calls += [make(1, r, fields)] + [put(1, r, i, source.randrange(4)) for i in range(min(fields, 3))]
    calls += [drop(1, r) for r in source.sample(range(4), source.choice((2, 3, 4, 4)))]
    calls += [start(), step(source.choice((1, 1, 2, 3, 4)))]
    while len(calls) < 190:
        chances = [step(1)] * 3 + [make(2, source.randrange(4), source.choice((0, 1, 6))), things()]
        calls.append(source.choice(chances))
    return calls + [finish(), things()]
