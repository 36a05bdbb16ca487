"""Nobody notices: threads are answered as in a house where nothing is ever collected or moved.

There things refer to one another straight, and are never gone. Only three answers of the program are taken over,
each only where it may be so: that there is no room, that a weak one has let go, and whose last words are told.
"""

import random
import unittest

from tests.spelling import (
    NAMES, drop, finish, make, put, some_list, start, step, things, things_told, told, words, work, work_told,
)

ROUNDS_TILL_DEAD_ARE_GONE = 2


class Thing:
    def __init__(self, number, sort, fields):
        self.number = number
        self.sort = sort
        self.fields = [None] * fields
        self.value = 0
        self.told = False


class Kept:
    """The house where all is kept."""

    def __init__(self, case):
        self.case = case
        self.held = {(t, r): None for t in (1, 2, 3) for r in range(4)}
        self.held.update({("name", n): None for n in range(4)})
        self.all = {}
        self.waiting = []

    def reached(self):
        """The numbers of the things that threads can come to, now or through last words that wait."""
        found = {}
        ahead = [thing for thing in list(self.held.values()) + self.waiting if thing]
        while ahead:
            thing = ahead.pop()
            if thing.number not in found:
                found[thing.number] = thing
                ahead += [other for other in thing.fields if other and thing.sort != 1]
        return set(found)

    def number(self, thing):
        return thing.number if thing else 0

    def hold(self, key, thing):
        self.held[key] = thing
        return self.number(thing)

    def answer(self, call, part):
        """What a thread's call is to answer, where the program answers part."""
        if part in ([-1], [-2], [-3]):
            return part[0]
        return getattr(self, NAMES[call[0]])(part[0], *call[1:])

    def make(self, part, thread, to, fields, sort):
        if part == -8:
            return -8
        thing = self.all[len(self.all) + 1] = Thing(len(self.all) + 1, sort, fields)
        return self.hold((thread, to), thing)

    def weak(self, part, thread, to, q):
        if part == -8:
            return -8
        target = self.held[thread, q]
        number = self.make(part, thread, to, 1, 1)
        self.held[thread, to].fields = [target]
        return number

    def get(self, part, thread, to, q, i):
        return self.hold((thread, to), self.held[thread, q].fields[i])

    def put(self, part, thread, q, i, r):
        self.held[thread, q].fields[i] = self.held[thread, r]
        return self.number(self.held[thread, r])

    def copy(self, part, thread, to, q):
        return self.hold((thread, to), self.held[thread, q])

    def drop(self, part, thread, to):
        return self.hold((thread, to), None)

    def load(self, part, thread, to, name):
        return self.hold((thread, to), self.held["name", name])

    def save(self, part, thread, name, r):
        return self.hold(("name", name), self.held[thread, r])

    def same(self, part, thread, r, q):
        return int(self.held[thread, r] is self.held[thread, q])

    def write(self, part, thread, r, v):
        before, self.held[thread, r].value = self.held[thread, r].value, v
        return before

    def read(self, part, thread, r):
        return self.held[thread, r].value

    def look(self, part, thread, to, q):
        weak = self.held[thread, q]
        if part == 0 and weak.fields[0]:
            self.case.assertNotIn(weak.fields[0].number, self.reached())
            weak.fields = [None]
        return self.hold((thread, to), weak.fields[0])

    def words(self, part, thread, to):
        if part == 0:
            self.case.assertEqual(self.waiting, [])
            return self.hold((thread, to), None)
        return self.hold((thread, to), self.waiting.pop(0))

    def see_work(self, part):
        """Those that wait now and didn't: nobody could come to them, and they weren't told."""
        now = work_told(part)["waiting"]
        before = [thing.number for thing in self.waiting]
        self.case.assertEqual(now[:len(before)], before)
        reached = self.reached()
        for number in now[len(before):]:
            self.case.assertNotIn(number, reached)
            self.case.assertEqual((self.all[number].sort, self.all[number].told), (2, False))
            self.all[number].told = True
            self.waiting.append(self.all[number])

    def see_things(self, part):
        """No living thing is lost: each is there as it is kept, but for weak ones that let go of what is dead."""
        found = {thing[0]: thing for thing in things_told(part)}
        reached = self.reached()
        self.case.assertEqual(reached - set(found), set())
        for number in reached:
            thing = self.all[number]
            fields = [self.number(other) for other in thing.fields]
            if thing.sort == 1 and found[number][5] == [0] and fields != [0]:
                self.case.assertNotIn(fields[0], reached)
                fields = [0]
                thing.fields = [None]
            sort = 0 if thing.told else thing.sort
            self.case.assertEqual((found[number][2], found[number][3], found[number][5]), (sort, thing.value, fields))
        return set(found) - reached


class Unnoticed(unittest.TestCase):
    def test_many_lists(self):
        source = random.Random(7)
        for turn in range(600):
            calls = some_list(source)
            # Asked behind each call, so that none of those who wait is missed.
            asking = [call for one in calls for call in (one, work(), things())]
            rest = [start(), finish(), work()] * (ROUNDS_TILL_DEAD_ARE_GONE + 1) + [things(), work()]
            parts = told(asking + [finish(), work()] + rest)
            kept = Kept(self)
            for at, call in enumerate(calls):
                self.one_call(kept, call, *parts[3 * at:3 * at + 3])
            self.the_end(kept, parts[3 * len(calls):])

    def one_call(self, kept, call, part, work_part, things_part):
        # make and weak pay first: those that wait then, wait ahead of what is made.
        pays = NAMES[call[0]] in ("make", "weak")
        if pays:
            kept.see_work(work_part)
        if call[0] <= NAMES.index("words"):
            self.assertEqual([kept.answer(call, part)], part, call)
        if not pays:
            kept.see_work(work_part)
        kept.see_things(things_part)

    def the_end(self, kept, parts):
        """Each dead one is gone in time, and in the end it rests."""
        for part in (parts[1], parts[4], parts[7], parts[10]):
            kept.see_work(part)
        dead = kept.see_things(parts[-2])
        self.assertEqual(dead, set())
        self.assertEqual(work_told(parts[-1])["doing"], 0)


class GoneInTime(unittest.TestCase):
    def test_what_is_dropped_in_a_round_is_gone_with_the_next(self):
        for n in range(12):
            calls = [make(1, 0, 1), make(1, 1), put(1, 0, 0, 1), start(), step(n), drop(1, 0), drop(1, 1), finish()]
            self.assertEqual(told(calls + [start(), finish(), things()])[-1], [0])

    def test_last_words_that_nobody_asks_for_keep_their_things(self):
        calls = [make(1, 0, 0, 2), drop(1, 0)] + [start(), finish()] * 5
        self.assertEqual(told(calls + [things()])[-1][:2], [1, 1])
        self.assertEqual(told(calls + [words(1, 0), drop(1, 0), start(), finish(), things()])[-1], [0])


if __name__ == "__main__":
    unittest.main()
