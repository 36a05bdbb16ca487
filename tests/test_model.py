"""The calls against a model in which things refer to one another straight, and only words are counted."""

import random
import unittest

from quietsweep.house import answers
from tests.spelling import flat, some_call


class Refused(Exception):
    pass


class Thing:
    def __init__(self, number, fields, weak):
        self.number = number
        self.fields = [None] * fields
        self.weak = weak
        self.value = 0


class Model:
    def __init__(self):
        self.held = {}
        self.made = 0
        self.left = 16
        self.regions_left = 7

    def told(self, calls):
        return [self.one(call) for call in calls]

    def one(self, call):
        names = ("make", "weak", "get", "put", "copy", "drop", "load", "save", "same", "write", "read")
        try:
            answer = getattr(self, names[call[0]])(*call[1:])
        except Refused as refused:
            return refused.args[0]
        return answer if isinstance(answer, int) else self.number(answer)

    def number(self, thing):
        return 0 if thing is None else thing.number

    def refuse(self, number, wrong):
        if wrong:
            raise Refused(number)

    def bounds(self, thread, *slots):
        self.refuse(-1, thread not in (1, 2, 3) or any(slot not in (0, 1, 2, 3) for slot in slots))

    def there(self, thread, r):
        self.refuse(-2, self.held.get((thread, r)) is None)
        return self.held[thread, r]

    def field(self, thing, i):
        self.refuse(-3, thing.weak or i >= len(thing.fields))

    def new(self, fields, weak):
        if fields + 2 > self.left:
            self.refuse(-8, self.regions_left == 0)
            self.regions_left -= 1
            self.left = 16
        self.left -= fields + 2
        self.made += 1
        return Thing(self.made, fields, weak)

    def hold(self, thread, slot, thing):
        self.held[thread, slot] = thing
        return thing

    def make(self, thread, to, fields, sort):
        self.bounds(thread, to)
        self.refuse(-1, fields > 6 or sort not in (0, 2))
        return self.hold(thread, to, self.new(fields, False))

    def weak(self, thread, to, q):
        self.bounds(thread, to, q)
        self.there(thread, q)
        return self.hold(thread, to, self.new(1, True))

    def get(self, thread, to, q, i):
        self.bounds(thread, to, q)
        thing = self.there(thread, q)
        self.field(thing, i)
        return self.hold(thread, to, thing.fields[i])

    def put(self, thread, q, i, r):
        self.bounds(thread, q, r)
        thing = self.there(thread, q)
        self.field(thing, i)
        thing.fields[i] = self.held.get((thread, r))
        return thing.fields[i]

    def copy(self, thread, to, q):
        self.bounds(thread, to, q)
        return self.hold(thread, to, self.held.get((thread, q)))

    def drop(self, thread, to):
        self.bounds(thread, to)
        return self.hold(thread, to, None)

    def load(self, thread, to, name):
        self.bounds(thread, to, name)
        return self.hold(thread, to, self.held.get(("name", name)))

    def save(self, thread, name, r):
        self.bounds(thread, name, r)
        return self.hold("name", name, self.held.get((thread, r)))

    def same(self, thread, r, q):
        self.bounds(thread, r, q)
        return int(self.held.get((thread, r)) is self.held.get((thread, q)))

    def write(self, thread, r, v):
        self.bounds(thread, r)
        self.refuse(-1, v > 1000000)
        thing = self.there(thread, r)
        before = thing.value
        thing.value = v
        return before

    def read(self, thread, r):
        self.bounds(thread, r)
        return self.there(thread, r).value


class AgainstTheModel(unittest.TestCase):
    def test_many_lists(self):
        source = random.Random(20)
        seen = set()
        for turn in range(1500):
            calls = [some_call(source) for place in range(source.choice((1, 10, 60, 200)))]
            given = answers(flat(calls))
            self.assertEqual(given, flat([[1, number] for number in Model().told(calls)]), calls)
            seen.update(zip([call[0] for call in calls], given[1::2]))
        refused = {number: sorted(call for call, answer in seen if answer == number) for number in (-8, -3, -2, -1)}
        self.assertEqual(refused, {-8: [0, 1], -3: [2, 3], -2: [1, 2, 3, 9, 10], -1: list(range(11))})


if __name__ == "__main__":
    unittest.main()
