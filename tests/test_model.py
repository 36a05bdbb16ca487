"""All calls against a second, simpler model, written straight from the document.

It looks everything up by going through all things, and a round is one generator, that stops behind each step.
"""

import random
import unittest

from quietsweep.house import answers
from tests.spelling import NAMES, flat, some_list


class Refused(Exception):
    pass


class Model:
    def __init__(self):
        self.all = []
        self.given = [0] * 9
        self.current = 1
        self.held = {(t, r): 0 for t in (1, 2, 3) for r in range(4)}
        self.held.update({("name", n): 0 for n in range(4)})
        self.waiting = []
        self.state = 0
        self.grey = []
        self.todo = []
        self.emptied = []
        self.going = None
        self.paid = (0, 0)
        self.pauses = []
        self.rounds = 0
        self.made = 0
        self.made_by_then = 0
        self.seen = set()

    # What the lists of the test came upon is kept, so that the test can tell that they came upon all.
    def saw(self, what):
        self.seen.add(what)

    def told(self, calls):
        return [self.one(call) for call in calls]

    def one(self, call):
        self.saw((NAMES[call[0]], self.state))
        try:
            answer = getattr(self, NAMES[call[0]])(*call[1:])
        except Refused as refused:
            self.saw((NAMES[call[0]], refused.args[0]))
            answer = refused.args[0]
        return answer if isinstance(answer, list) else [answer]

    # Things, regions

    def at(self, place):
        for thing in self.all:
            if thing["place"] == place:
                return thing
        return None

    def number(self, place):
        thing = self.at(place)
        return thing["number"] if thing else 0

    def now(self, place):
        if place == 0:
            return 0
        return self.at(place)["moved"] or place

    def size(self, thing):
        return len(thing["fields"]) + 2

    def inside(self, region):
        return [thing for thing in self.by_place() if 16 * region <= thing["place"] < 16 * region + 16]

    def by_place(self):
        return sorted(self.all, key=lambda thing: thing["place"])

    def free(self):
        return [r for r in range(1, 9) if self.given[r] == 0 and r != self.current]

    def room(self, n):
        if self.given[self.current] + n > 16:
            if not self.free():
                return 0
            self.current = min(self.free())
        self.given[self.current] += n
        return 16 * self.current + self.given[self.current] - n

    def roots(self):
        keys = [(t, r) for t in (1, 2, 3) for r in range(4)] + [("name", n) for n in range(4)]
        return [self.held[key] for key in keys] + self.waiting

    # The collector

    def shade(self, place):
        if place and not self.at(place)["marked"]:
            self.at(place)["marked"] = 1
            self.grey.append(place)

    def begins(self):
        for thing in self.all:
            thing["marked"] = 0
        self.grey = []
        self.state = 1
        for place in self.roots():
            self.shade(place)
        self.pauses.append(len(self.roots()))
        self.going = self.a_round()

    def steps(self, n):
        for turn in range(n):
            if self.state == 0:
                return
            next(self.going, None)

    def a_round(self):
        yield from self.marking()
        weak = [thing for thing in self.all if thing["sort"] == 1]
        for thing in weak:
            if thing["fields"][0] and not self.at(thing["fields"][0])["marked"]:
                self.saw(("lets go", thing["marked"]))
                thing["fields"][0] = 0
        self.pauses.append(len(weak))
        self.made_by_then = self.made
        self.state = 2
        self.todo = [1, 2, 3, 4, 5, 6, 7, 8]
        yield
        while self.todo:
            self.swept(self.todo.pop(0))
            yield
        self.emptied = [r for r in range(1, 9) if self.is_sparse(r)]
        if self.emptied:
            yield from self.moving_and_healing()
        self.emptied = []
        self.state = 0
        self.rounds += 1

    def marking(self):
        while True:
            if self.grey:
                thing = self.at(self.grey.pop(0))
                for place in thing["fields"] if thing["sort"] != 1 else []:
                    self.shade(place)
            else:
                dying = [thing for thing in self.all if thing["sort"] == 2 and not thing["marked"]]
                if not dying:
                    return
                dying.sort(key=lambda thing: thing["number"])
                self.saw(("dying", min(len(dying), 3), dying != [t for t in self.by_place() if t in dying]))
                for thing in dying:
                    thing["sort"] = 0
                self.waiting += [thing["place"] for thing in dying]
                for thing in dying:
                    self.shade(thing["place"])
            yield

    def swept(self, region):
        gone = [thing for thing in self.inside(region) if not thing["marked"]]
        self.all = [thing for thing in self.all if thing not in gone]
        if not self.inside(region):
            self.saw(("swept bare", region == self.current, bool(gone)))
            self.given[region] = 0
        else:
            self.saw(("not bare", bool(gone)))

    def is_sparse(self, region):
        taken = sum(self.size(thing) for thing in self.inside(region))
        if region != self.current and taken in (8, 9):
            self.saw(("taken", taken))
        return region != self.current and 0 < taken <= 8

    def moving_and_healing(self):
        self.state = 3
        self.todo = [thing["place"] for r in self.emptied for thing in self.inside(r)]
        yield
        while self.todo:
            self.moved(self.at(self.todo.pop(0)))
            yield
        self.state = 4
        self.todo = [thing["place"] for thing in self.by_place() if not thing["moved"]]
        yield
        while self.todo:
            thing = self.at(self.todo.pop(0))
            thing["fields"] = [self.now(place) for place in thing["fields"]]
            yield
        self.pauses.append(len(self.roots()))
        self.held = {key: self.now(self.held[key]) for key in self.held}
        self.waiting = [self.now(place) for place in self.waiting]
        self.all = [thing for thing in self.all if not thing["moved"]]
        for region in self.emptied:
            if not self.inside(region):
                self.given[region] = 0

    def moved(self, thing):
        before = self.current
        place = self.room(self.size(thing))
        if place == 0:
            self.saw(("no room to move", bool(self.todo)))
            self.todo = []
            return
        self.saw(("moved", self.current == before))
        self.all.append(dict(thing, place=place, fields=list(thing["fields"])))
        thing["moved"] = place

    def pays(self, n):
        k, low = self.paid
        if self.state == 0 and k and len(self.free()) <= low:
            self.begins()
            self.saw("begun by paying")
        rounds = self.rounds
        self.steps(k * n)
        if self.rounds > rounds:
            self.saw("a round ended by paying")

    # Threads

    def refuse(self, number, wrong):
        if wrong:
            raise Refused(number)

    def bounds(self, thread, *slots):
        self.refuse(-1, thread not in (1, 2, 3) or any(slot not in (0, 1, 2, 3) for slot in slots))

    def there(self, thread, r):
        self.refuse(-2, self.held[thread, r] == 0)
        return self.at(self.now(self.held[thread, r]))

    def field(self, thing, i):
        self.refuse(-3, thing["sort"] == 1 or i >= len(thing["fields"]))

    def barrier(self, place):
        if self.state == 1:
            if place and not self.at(place)["marked"]:
                self.saw("shaded by a thread")
            self.shade(place)

    def new(self, fields, sort):
        self.pays(fields + 2)
        place = self.room(fields + 2)
        self.refuse(-8, place == 0)
        self.made += 1
        thing = {
            "number": self.made, "place": place, "sort": sort, "fields": [0] * fields, "value": 0, "marked": 1,
            "moved": 0,
        }
        self.all.append(thing)
        return thing

    def hold(self, key, place):
        if place and self.at(place)["moved"]:
            self.saw("held after it moved")
        self.held[key] = self.now(place)
        return self.number(place)

    def make(self, thread, to, fields, sort):
        self.bounds(thread, to)
        self.refuse(-1, fields > 6 or sort not in (0, 2))
        return self.hold((thread, to), self.new(fields, sort)["place"])

    def weak(self, thread, to, q):
        self.bounds(thread, to, q)
        self.there(thread, q)
        thing = self.new(1, 1)
        thing["fields"] = [self.now(self.held[thread, q])]
        return self.hold((thread, to), thing["place"])

    def get(self, thread, to, q, i):
        self.bounds(thread, to, q)
        thing = self.there(thread, q)
        self.field(thing, i)
        return self.hold((thread, to), thing["fields"][i])

    def put(self, thread, q, i, r):
        self.bounds(thread, q, r)
        thing = self.there(thread, q)
        self.field(thing, i)
        self.barrier(thing["fields"][i])
        thing["fields"][i] = self.now(self.held[thread, r])
        return self.number(thing["fields"][i])

    def copy(self, thread, to, q):
        self.bounds(thread, to, q)
        return self.hold((thread, to), self.held[thread, q])

    def drop(self, thread, to):
        self.bounds(thread, to)
        return self.hold((thread, to), 0)

    def load(self, thread, to, name):
        self.bounds(thread, to, name)
        return self.hold((thread, to), self.held["name", name])

    def save(self, thread, name, r):
        self.bounds(thread, name, r)
        return self.hold(("name", name), self.held[thread, r])

    def same(self, thread, r, q):
        self.bounds(thread, r, q)
        return int(self.now(self.held[thread, r]) == self.now(self.held[thread, q]))

    def write(self, thread, r, v):
        self.bounds(thread, r)
        self.refuse(-1, v > 1000000)
        thing = self.there(thread, r)
        before = thing["value"]
        thing["value"] = v
        return before

    def read(self, thread, r):
        self.bounds(thread, r)
        return self.there(thread, r)["value"]

    def look(self, thread, to, q):
        self.bounds(thread, to, q)
        thing = self.there(thread, q)
        self.refuse(-3, thing["sort"] != 1)
        self.barrier(thing["fields"][0])
        return self.hold((thread, to), thing["fields"][0])

    def words(self, thread, to):
        self.bounds(thread, to)
        first = self.waiting[:1]
        self.waiting = self.waiting[1:]
        self.saw(("words told", self.state if first else "none"))
        return self.hold((thread, to), sum(first))

    # The collector's calls

    def start(self):
        self.refuse(-8, self.state != 0)
        self.begins()
        return len(self.grey)

    def step(self, n):
        self.refuse(-1, n > 200)
        self.steps(n)
        return self.state

    def finish(self):
        while self.state:
            self.steps(1)
        return self.rounds

    def pace(self, k, low):
        self.refuse(-1, k > 20 or low > 8)
        self.paid = (k, low)
        return 0

    def regs(self, thread):
        self.bounds(thread)
        keys = [(thread, r) for r in range(4)] + [("name", n) for n in range(4)]
        return [self.number(self.held[key]) for key in keys]

    def things(self):
        there = [thing for thing in self.by_place() if not thing["moved"]]
        told = [len(there)]
        for thing in there:
            told += [thing[word] for word in ("number", "place", "sort", "value", "marked")]
            told += [len(thing["fields"])] + [self.number(place) for place in thing["fields"]]
            self.saw_stale(thing)
        return told

    def saw_stale(self, thing):
        for place in thing["fields"]:
            lying = self.at(place)
            if place and lying is None:
                self.saw(("a field's place is empty", self.state, thing["marked"]))
            if lying and not thing["marked"] and lying["number"] > self.made_by_then:
                self.saw(("a field's place has another", self.state))

    def regions(self):
        told = [self.current]
        for region in range(1, 9):
            told += [self.given[region], sum(self.size(thing) for thing in self.inside(region))]
        return told

    def work(self):
        told = [self.state, len(self.grey), len(self.todo), len(self.emptied)] + self.emptied
        told += [len(self.waiting)] + [self.number(place) for place in self.waiting]
        return told + [self.made, len(self.free()), len(self.pauses), max(self.pauses, default=0), self.rounds]


class AgainstTheModel(unittest.TestCase):
    def test_many_lists(self):
        source = random.Random(20)
        seen = set()
        for turn in range(2500):
            calls = some_list(source)
            model = Model()
            expected = model.told(calls)
            self.assertEqual(answers(flat(calls)), flat([[len(part)] + part for part in expected]), calls)
            seen |= model.seen
        self.tell_what_is_missing(seen)

    def tell_what_is_missing(self, seen):
        """The lists came upon each call in each state, each refusal, and each kind of step."""
        wanted = {(name, state) for name in NAMES for state in range(5)}
        wanted |= {(name, -1) for name in NAMES if name not in ("start", "finish", "things", "regions", "work")}
        wanted |= {(name, -2) for name in ("weak", "get", "put", "write", "read", "look")}
        wanted |= {(name, -3) for name in ("get", "put", "look")} | {(name, -8) for name in ("make", "weak", "start")}
        wanted |= {("lets go", marked) for marked in (0, 1)}
        wanted |= {("dying", many, False) for many in (1, 2, 3)} | {("dying", 2, True)}
        wanted |= {("swept bare", current, True) for current in (False, True)} | {("not bare", True)}
        wanted |= {("taken", 8), ("taken", 9), ("moved", True), ("moved", False)}
        wanted |= {("no room to move", False), ("no room to move", True)}
        wanted |= {("words told", state) for state in (0, 1, 2, 3, 4, "none")}
        wanted |= {("a field's place is empty", 2, 0), ("a field's place has another", 2)}
        wanted |= {"begun by paying", "a round ended by paying", "held after it moved", "shaded by a thread"}
        self.assertEqual(wanted - seen, set())
        never = {what for what in seen if what[0] == "a field's place is empty" and what[1:] != (2, 0)}
        self.assertEqual(never, set())


if __name__ == "__main__":
    unittest.main()
