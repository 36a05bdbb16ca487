"""Each kind of step by itself, with things, regions, regs and work asked behind it."""

import unittest

from quietsweep.collector_calls import call_start, call_step
from quietsweep.thread_calls import call_make, call_put
from quietsweep.threads import House
from tests.spelling import (
    HEALS, MARKS, MOVES, RESTS, SWEEPS, asked, copy, drop, finish, get, last, look, make, put, regs, save, shown, start,
    step, things, things_told, told, weak, words, write,
)


def marks(calls):
    """Whether each thing is marked, by its number."""
    return {thing[0]: thing[4] for thing in shown(calls)[0]}


def fields(calls):
    """What each thing's fields hold, by its number."""
    return {thing[0]: thing[5] for thing in shown(calls)[0]}


def places(calls):
    return {thing[0]: thing[1] for thing in shown(calls)[0]}


class Begin(unittest.TestCase):
    def test_roots_are_shaded_and_nothing_else(self):
        calls = [make(1, 0, 1), make(1, 1), put(1, 0, 0, 1), drop(1, 1), make(1, 2), drop(1, 2), start()]
        self.assertEqual(last(calls), 1)
        self.assertEqual(marks(calls), {1: 1, 2: 0, 3: 0})
        work = shown(calls)[2]
        self.assertEqual((work["doing"], work["grey"], work["todo"]), (MARKS, 1, 0))
        self.assertEqual((work["pauses"], work["longest"], work["rounds"]), (1, 16, 0))

    def test_a_thing_in_several_roots_waits_once(self):
        calls = [make(1, 0), copy(1, 1, 0), copy(1, 2, 0), save(1, 3, 0), start()]
        self.assertEqual(last(calls), 1)

    def test_each_root_is_one(self):
        for thread in (1, 2, 3):
            for r in range(4):
                self.assertEqual(last([make(thread, r), start()]), 1)
        for name in range(4):
            self.assertEqual(last([make(1, 0), save(1, name, 0), drop(1, 0), start()]), 1)
        dying = [make(1, 0, 0, 2), drop(1, 0), start(), finish(), start()]
        self.assertEqual(last(dying), 1)

    def test_roots_are_shaded_in_order(self):
        # Each root's thing holds another one: the order in which these are marked is the roots' order.
        def pair(thread, r):
            return [make(thread, r, 1), make(thread, 2, 0), put(thread, r, 0, 2), drop(thread, 2)]

        calls = [make(3, 0, 1, 2), make(3, 2, 0), put(3, 0, 0, 2), drop(3, 0), drop(3, 2), start(), finish()]
        calls += pair(2, 1) + [save(2, 0, 1)] + pair(2, 1) + pair(3, 1) + pair(3, 0) + pair(1, 3) + pair(1, 0)
        calls += pair(2, 0) + [start()]
        inner = {2: "waits", 4: "name", 6: "2.1", 8: "3.1", 10: "3.0", 12: "1.3", 14: "1.0", 16: "2.0"}
        order = []
        for n in range(1, 9):
            now = [inner[number] for number, marked in marks(calls + [step(n)]).items() if marked and number in inner]
            order += [word for word in now if word not in order]
        self.assertEqual(order, ["1.0", "1.3", "2.0", "2.1", "3.0", "3.1", "name", "waits"])

    def test_marks_of_the_round_before_are_gone(self):
        calls = [make(1, 0), make(1, 1), start(), finish()]
        self.assertEqual(marks(calls), {1: 1, 2: 1})
        self.assertEqual(marks(calls + [drop(1, 1), start()]), {1: 1, 2: 0})


class Mark(unittest.TestCase):
    def test_a_thing_is_looked_at(self):
        calls = [make(1, 0, 3), make(1, 1), put(1, 0, 0, 1), put(1, 0, 2, 1), make(1, 1), put(1, 0, 1, 1), drop(1, 1),
                 start()]
        self.assertEqual((marks(calls), shown(calls)[2]["grey"]), ({1: 1, 2: 0, 3: 0}, 1))
        calls.append(step())
        self.assertEqual((marks(calls), shown(calls)[2]["grey"]), ({1: 1, 2: 1, 3: 1}, 2))
        for grey in (1, 0):
            calls.append(step())
            work = shown(calls)[2]
            self.assertEqual((work["doing"], work["grey"], work["pauses"]), (MARKS, grey, 1))

    def test_fields_are_shaded_in_order_and_wait_last(self):
        # 1 holds 4 and 2, which hold 5 and 3; 6 waits ahead of them, and holds 7.
        calls = [make(1, 0, 2), make(1, 1, 1), make(1, 2), put(1, 1, 0, 2), put(1, 0, 1, 1), make(1, 1, 1), make(1, 2),
                 put(1, 1, 0, 2), put(1, 0, 0, 1), make(1, 1, 1), make(1, 2), put(1, 1, 0, 2), drop(1, 2), start()]
        found = []
        for n in range(1, 5):
            found.append(sorted(number for number, marked in marks(calls + [step(n)]).items() if marked))
        self.assertEqual(found, [[1, 2, 4, 6], [1, 2, 4, 6, 7], [1, 2, 4, 5, 6, 7], [1, 2, 3, 4, 5, 6, 7]])

    def test_a_ring_and_a_thing_that_holds_itself(self):
        calls = [make(1, 0, 1), make(1, 1, 2), put(1, 0, 0, 1), put(1, 1, 0, 0), put(1, 1, 1, 1), drop(1, 1), start()]
        self.assertEqual(asked(calls + [step()] * 4)[-4:], [MARKS, MARKS, SWEEPS, SWEEPS])
        self.assertEqual(marks(calls + [finish()]), {1: 1, 2: 1})
        self.assertEqual(marks(calls + [finish(), drop(1, 0), start(), finish()]), {})

    def test_a_weak_one_is_looked_at_and_its_field_is_not_shaded(self):
        calls = [make(1, 0), weak(1, 1, 0), drop(1, 0), start()]
        self.assertEqual((marks(calls), shown(calls)[2]["grey"]), ({1: 0, 2: 1}, 1))
        calls.append(step())
        self.assertEqual((marks(calls), shown(calls)[2]["grey"]), ({1: 0, 2: 1}, 0))
        self.assertEqual(fields(calls), {1: [], 2: [1]})

    def test_a_made_thing_is_marked_and_does_not_wait(self):
        for calls in ([], [start()], [start(), step(1)], [start(), step(5)]):
            before = shown(calls)[2]["grey"]
            self.assertEqual(marks(calls + [make(1, 0), weak(1, 1, 0)]), {1: 1, 2: 1})
            self.assertEqual(shown(calls + [make(1, 0), weak(1, 1, 0)])[2]["grey"], before)


class Dying(unittest.TestCase):
    # 3 lies in region 2 and 5 in region 1, as that was bare by then: by places they stand the other way round.
    BOTH = [make(1, 0, 6), make(1, 0, 6), make(1, 1, 0, 2), drop(1, 0), start(), finish(), make(1, 0, 6),
            make(1, 2, 6, 2)]

    def test_they_wait_by_their_numbers(self):
        self.assertEqual(places(self.BOTH), {3: 32, 4: 34, 5: 16})
        calls = self.BOTH + [drop(1, 1), drop(1, 2), start(), step(2)]
        found, regions, work = shown(calls)
        self.assertEqual(work["waiting"], [3, 5])
        self.assertEqual((work["doing"], work["grey"], work["todo"]), (MARKS, 2, 0))
        self.assertEqual([(thing[0], thing[2], thing[4]) for thing in found], [(5, 0, 1), (3, 0, 1), (4, 0, 1)])
        self.assertEqual((work["pauses"], work["longest"], work["rounds"]), (3, 16, 1))

    def test_they_are_told_once_in_order(self):
        calls = self.BOTH + [drop(1, 1), drop(1, 2), start(), finish()]
        self.assertEqual(asked(calls + [words(2, 0), words(2, 1), words(2, 2)])[-3:], [3, 5, 0])
        again = calls + [words(2, 0), words(2, 0), words(2, 0), start(), finish(), words(2, 0)]
        self.assertEqual(asked(again)[-6:], [3, 5, 0, 1, 3, 0])
        self.assertEqual(sorted(marks(again)), [4])

    def test_they_wait_behind_the_others(self):
        calls = [make(1, 0, 0, 2), make(1, 1, 0, 2), make(1, 2, 0, 2), drop(1, 1), start(), finish(), drop(1, 0),
                 drop(1, 2), start(), finish()]
        self.assertEqual(shown(calls)[2]["waiting"], [2, 1, 3])
        self.assertEqual(asked(calls + [words(1, 0)] * 4)[-4:], [2, 1, 3, 0])

    def test_they_are_shaded_in_order(self):
        calls = [make(1, 0, 1, 2), make(1, 1), put(1, 0, 0, 1), make(1, 0, 1, 2), make(1, 1), put(1, 0, 0, 1),
                 drop(1, 0), drop(1, 1), start(), step()]
        self.assertEqual(marks(calls), {1: 1, 2: 0, 3: 1, 4: 0})
        self.assertEqual(marks(calls + [step()]), {1: 1, 2: 1, 3: 1, 4: 0})
        self.assertEqual(marks(calls + [step(2)]), {1: 1, 2: 1, 3: 1, 4: 1})

    def test_one_that_another_dying_one_holds_is_dying_too(self):
        calls = [make(1, 0, 1, 2), make(1, 1, 0, 2), put(1, 0, 0, 1), drop(1, 0), drop(1, 1), start(), step()]
        self.assertEqual(shown(calls)[2]["waiting"], [1, 2])

    def test_one_that_a_root_comes_to_is_not_dying(self):
        calls = [make(1, 0, 1), make(1, 1, 0, 2), put(1, 0, 0, 1), drop(1, 1), start(), finish()]
        self.assertEqual(shown(calls)[2]["waiting"], [])
        self.assertEqual([thing[2] for thing in shown(calls)[0]], [0, 2])

    def test_what_waits_keeps_what_it_holds_round_by_round(self):
        calls = [make(1, 0, 1, 2), make(1, 1, 1), put(1, 0, 0, 1), make(1, 2), put(1, 1, 0, 2), drop(1, 0), drop(1, 1),
                 drop(1, 2)] + [start(), finish()] * 3
        self.assertEqual(fields(calls), {1: [2], 2: [3], 3: []})
        self.assertEqual(fields(calls + [words(1, 0), drop(1, 0), start(), finish()]), {})

    def test_a_thing_of_the_last_words_that_another_died_behind(self):
        # 1 is plain by its first death; 2 is held by it, but has its own last words once 1 is gone.
        calls = [make(1, 0, 1, 2), drop(1, 0), start(), finish(), words(1, 0), make(1, 1, 0, 2), put(1, 0, 0, 1),
                 drop(1, 0), drop(1, 1), start(), finish()]
        self.assertEqual(sorted(marks(calls)), [2])
        self.assertEqual(shown(calls)[2]["waiting"], [2])


class LettingGo(unittest.TestCase):
    def test_those_that_let_go_and_those_that_do_not(self):
        calls = [
            make(1, 0), weak(1, 1, 0), save(1, 0, 1),        # 2, for 1, which lives
            make(1, 2), weak(1, 1, 2), save(1, 1, 1),        # 4, for 3, which is dead
            weak(1, 3, 0), weak(1, 3, 2), drop(1, 3),        # 5 and 6, dead, for both
            make(1, 3, 0, 2), weak(1, 1, 3),                 # 8, for 7, which is dying
            drop(1, 2), drop(1, 3), start(),
        ]
        ahead = calls + [step(6)]
        self.assertEqual(shown(ahead)[2]["doing"], MARKS)
        self.assertEqual(fields(ahead), {1: [], 2: [1], 3: [], 4: [3], 5: [1], 6: [3], 7: [], 8: [7]})
        behind = calls + [step(7)]
        work = shown(behind)[2]
        self.assertEqual((work["doing"], work["todo"], work["pauses"], work["longest"]), (SWEEPS, 8, 2, 16))
        self.assertEqual(fields(behind), {1: [], 2: [1], 3: [], 4: [0], 5: [1], 6: [0], 7: [], 8: [7]})
        self.assertEqual(marks(behind), {1: 1, 2: 1, 3: 0, 4: 1, 5: 0, 6: 0, 7: 1, 8: 1})
        self.assertEqual(fields(calls + [finish()]), {1: [], 2: [1], 4: [0], 7: [], 8: [7]})

    def test_a_weak_one_for_a_weak_one_that_is_dead(self):
        calls = [make(1, 0), weak(1, 1, 0), weak(1, 2, 1), drop(1, 1), start(), finish()]
        self.assertEqual(fields(calls), {1: [], 3: [0]})

    def test_two_weak_ones_for_one_thing(self):
        calls = [make(1, 0), weak(1, 1, 0), weak(1, 2, 0), drop(1, 0), start(), finish()]
        self.assertEqual(fields(calls), {2: [0], 3: [0]})

    def test_one_held_by_last_words_is_let_go_when_these_are_gone(self):
        calls = [make(1, 0, 0, 2), weak(1, 1, 0), drop(1, 0), start(), finish()]
        self.assertEqual(fields(calls), {1: [], 2: [1]})
        self.assertEqual(last(calls + [look(1, 2, 1)]), 1)
        self.assertEqual(fields(calls + [words(1, 0), drop(1, 0), start(), finish()]), {2: [0]})

    def test_a_dead_weak_one_keeps_nothing(self):
        self.assertEqual(fields([make(1, 0), weak(1, 0, 0), drop(1, 0), start(), finish()]), {})


class Sweep(unittest.TestCase):
    def test_a_region_that_is_not_bare(self):
        calls = [make(1, 0, 2), make(1, 1, 1), make(1, 2, 3), drop(1, 1), start(), step(3), step()]
        found, (current, regions), work = shown(calls)
        self.assertEqual([thing[:2] for thing in found], [(1, 16), (3, 23)])
        self.assertEqual((current, regions[1]), (1, (12, 9)))
        self.assertEqual((work["doing"], work["todo"]), (SWEEPS, 7))

    def test_a_region_swept_bare(self):
        calls = [make(1, 0, 6), make(1, 0, 6), make(1, 0, 6), start(), step(2)]
        self.assertEqual(shown(calls)[1][1][1], (16, 16))
        found, (current, regions), work = shown(calls + [step()])
        self.assertEqual([thing[0] for thing in found], [3])
        self.assertEqual((current, regions[1], regions[2]), (2, (0, 0), (8, 8)))
        self.assertEqual((work["todo"], work["free"]), (7, 7))

    def test_the_current_region_swept_bare(self):
        calls = [make(1, 0, 6), make(1, 1, 6), make(1, 2, 6), drop(1, 2), start(), step(5)]
        found, (current, regions), work = shown(calls)
        self.assertEqual((current, regions[2], work["todo"], work["free"]), (2, (0, 0), 6, 6))
        self.assertEqual(places(calls + [make(1, 2, 6)])[4], 32)

    def test_regions_go_one_by_one(self):
        calls = [make(1, 0, 6) for n in range(16)] + [drop(1, 0), start(), step()]
        for n in range(1, 9):
            found, (current, regions), work = shown(calls + [step(n)])
            self.assertEqual([thing[0] for thing in found], list(range(2 * n + 1, 17)))
            self.assertEqual([regions[r] for r in range(1, 9)], [(0, 0)] * n + [(16, 16)] * (8 - n))
            self.assertEqual((work["doing"], work["todo"], work["rounds"]), (SWEEPS, 8 - n, 0))
        self.assertEqual(shown(calls + [step(9)])[2]["rounds"], 1)

    def test_what_is_made_while_it_sweeps_stays(self):
        for n in range(9):
            calls = [make(1, 0, 6) for n in range(3)] + [drop(1, 0), start(), step(), step(n), make(1, 1, 1), finish()]
            self.assertEqual(sorted(marks(calls)), [4])

    def test_dead_things_that_hold_one_another(self):
        calls = [make(1, 0, 2), make(1, 1, 2), put(1, 0, 0, 1), put(1, 1, 0, 0), drop(1, 0), drop(1, 1), start(),
                 finish()]
        self.assertEqual(marks(calls), {})


class WhileItSweeps(unittest.TestCase):
    """A thing that isn't marked tells what lies at its fields' places by then."""

    # 1 and 2 lie in region 1; 3, in region 2, holds both, itself and 4; 4 fills region 2. All are dead.
    DEAD = [make(1, 0, 6), make(1, 1, 6), make(1, 2, 6), put(1, 2, 0, 0), put(1, 2, 1, 1), put(1, 2, 2, 2),
            make(1, 3, 6), put(1, 2, 3, 3), drop(1, 0), drop(1, 1), drop(1, 2), drop(1, 3), start(), step()]

    def test_nothing_is_swept_yet(self):
        self.assertEqual(fields(self.DEAD)[3], [1, 2, 3, 4, 0, 0])

    def test_places_that_are_empty(self):
        calls = self.DEAD + [step()]
        self.assertEqual(fields(calls), {3: [0, 0, 3, 4, 0, 0], 4: [0] * 6})
        self.assertEqual(marks(calls), {3: 0, 4: 0})

    def test_a_thing_made_since(self):
        calls = self.DEAD + [step(), make(2, 0, 6)]
        self.assertEqual(places(calls), {5: 16, 3: 32, 4: 40})
        self.assertEqual(fields(calls), {5: [0] * 6, 3: [5, 0, 3, 4, 0, 0], 4: [0] * 6})
        self.assertEqual(fields(calls + [make(2, 0, 6)])[3], [5, 6, 3, 4, 0, 0])

    def test_a_thing_made_since_that_begins_elsewhere(self):
        calls = self.DEAD + [step(), make(2, 0, 3), make(2, 1, 5)]
        self.assertEqual(places(calls), {5: 16, 6: 21, 3: 32, 4: 40})
        self.assertEqual(fields(calls)[3], [5, 0, 3, 4, 0, 0])

    def test_in_the_end_it_is_gone(self):
        self.assertEqual(fields(self.DEAD + [step(), make(2, 0, 6), step()]), {5: [0] * 6})
        self.assertEqual(fields(self.DEAD + [step(), make(2, 0, 6), finish()]), {5: [0] * 6})


class NothingSparse(unittest.TestCase):
    def ended(self, calls):
        found, regions, work = shown(calls)
        self.assertEqual((work["doing"], work["todo"], work["to_empty"], work["rounds"]), (RESTS, 0, [], 1))
        self.assertEqual(work["pauses"], 2)
        return regions[1]

    def test_an_empty_house(self):
        self.ended([start(), step(10)])

    def test_the_current_region_is_not_sparse(self):
        regions = self.ended([make(1, 0, 0), start(), step(11)])
        self.assertEqual(regions[1], (2, 2))

    def test_more_than_half(self):
        # Of region 1 nine words are taken: of 7 and of 2.
        calls = [make(1, 0, 5), make(1, 1, 0), make(1, 2, 5), make(1, 3, 6), drop(1, 2), start(), step(4 + 8)]
        self.assertEqual(shown(calls)[2]["doing"], SWEEPS)
        regions = self.ended(calls + [step()])
        self.assertEqual((regions[1], regions[2]), ((16, 9), (8, 8)))


class Sparse(unittest.TestCase):
    # Of region 1 just half is taken; region 2 is the current one.
    HALF = [make(1, 0, 6), make(1, 1, 6), make(1, 2, 6), put(1, 2, 0, 0), put(1, 0, 1, 2), write(1, 0, 55), drop(1, 1),
            save(1, 3, 0), start()]

    def test_just_half(self):
        found, regions, work = shown(self.HALF + [step(3 + 8)])
        self.assertEqual((work["doing"], work["todo"], work["to_empty"]), (SWEEPS, 0, []))
        found, (current, regions), work = shown(self.HALF + [step(3 + 8 + 1)])
        self.assertEqual((work["doing"], work["todo"], work["to_empty"], work["rounds"]), (MOVES, 1, [1], 0))
        self.assertEqual((current, regions[1], regions[2]), (2, (16, 8), (8, 8)))
        self.assertEqual([thing[:2] for thing in found], [(1, 16), (3, 32)])

    def test_moved_behind_what_is_given_out(self):
        calls = self.HALF + [step(3 + 8 + 2)]
        found, (current, regions), work = shown(calls)
        self.assertEqual(found, [(3, 32, 0, 0, 1, [1, 0, 0, 0, 0, 0]), (1, 40, 0, 55, 1, [0, 3, 0, 0, 0, 0])])
        self.assertEqual((current, regions[1], regions[2]), (2, (16, 8), (16, 16)))
        self.assertEqual((work["doing"], work["todo"], work["to_empty"], work["free"]), (MOVES, 0, [1], 6))
        self.assertEqual(told(calls + [regs(1)])[-1], [1, 0, 3, 0, 0, 0, 0, 1])

    def test_what_is_to_heal(self):
        found, regions, work = shown(self.HALF + [step(3 + 8 + 3)])
        self.assertEqual((work["doing"], work["todo"], work["to_empty"], work["pauses"]), (HEALS, 2, [1], 2))

    def test_healing_one_by_one(self):
        for healed in (1, 2):
            calls = self.HALF + [step(3 + 8 + 3 + healed)]
            found, (current, regions), work = shown(calls)
            self.assertEqual((work["doing"], work["todo"], work["to_empty"]), (HEALS, 2 - healed, [1]))
            self.assertEqual((regions[1], regions[2]), ((16, 8), (16, 16)))
            self.assertEqual(fields(calls), {3: [1, 0, 0, 0, 0, 0], 1: [0, 3, 0, 0, 0, 0]})

    def test_the_end_of_healing(self):
        calls = self.HALF + [step(3 + 8 + 6)]
        found, (current, regions), work = shown(calls)
        self.assertEqual(found, [(3, 32, 0, 0, 1, [1, 0, 0, 0, 0, 0]), (1, 40, 0, 55, 1, [0, 3, 0, 0, 0, 0])])
        self.assertEqual((current, regions[1], regions[2]), (2, (0, 0), (16, 16)))
        self.assertEqual((work["doing"], work["todo"], work["to_empty"], work["rounds"]), (RESTS, 0, [], 1))
        self.assertEqual((work["pauses"], work["longest"], work["free"], work["made"]), (3, 16, 7, 3))
        self.assertEqual(told(calls + [regs(1)])[-1], [1, 0, 3, 0, 0, 0, 0, 1])

    def test_the_old_place_is_another_s_then(self):
        calls = self.HALF + [finish(), make(2, 0, 6), make(2, 1, 6)]
        self.assertEqual(places(calls), {4: 16, 5: 24, 3: 32, 1: 40})
        self.assertEqual(fields(calls)[3], [1, 0, 0, 0, 0, 0])
        self.assertEqual(told(calls + [regs(1)])[-1], [1, 0, 3, 0, 0, 0, 0, 1])
        self.assertEqual(fields(calls + [start(), finish()]).keys(), {1, 3, 4, 5})

    def test_moved_to_a_free_region(self):
        # Region 2 is full, so that the free one with the lowest number is the current one then.
        calls = [make(1, 0, 6), make(1, 1, 6), make(1, 2, 6), make(1, 3, 6), drop(1, 1), start(), step(4 + 8 + 1)]
        self.assertEqual((shown(calls)[2]["doing"], shown(calls)[1][0]), (MOVES, 2))
        found, (current, regions), work = shown(calls + [step()])
        self.assertEqual([thing[:2] for thing in found], [(3, 32), (4, 40), (1, 48)])
        self.assertEqual((current, regions[1], regions[2], regions[3]), (3, (16, 8), (16, 16), (8, 8)))
        self.assertEqual(work["free"], 5)

    def test_things_of_several_regions_by_their_places(self):
        # 3 and 6 are dead; 1 and 2 of region 1, and 4 and 5 of region 2, move to region 3.
        calls = [make(1, 0, 1), make(1, 1, 1), make(2, 0, 6), make(1, 2, 2), make(1, 3, 0), make(2, 0, 6),
                 make(2, 1, 6), drop(2, 0), start(), finish()]
        self.assertEqual(places(calls[:-2]), {1: 16, 2: 19, 3: 22, 4: 32, 5: 36, 6: 38, 7: 48})
        ahead = calls[:-1] + [step(6 + 8 + 1)]
        self.assertEqual((shown(ahead)[2]["todo"], shown(ahead)[2]["to_empty"]), (4, [1, 2]))
        self.assertEqual(places(ahead + [step(1)]), {7: 48, 1: 56, 2: 19, 4: 32, 5: 36})
        self.assertEqual(places(ahead + [step(2)]), {7: 48, 1: 56, 2: 59, 4: 32, 5: 36})
        # 4 takes four words, of which there are two behind 2: it goes to region 4, and 5 behind it.
        self.assertEqual(places(ahead + [step(3)]), {7: 48, 1: 56, 2: 59, 4: 64, 5: 36})
        self.assertEqual(places(ahead + [step(4)]), {7: 48, 1: 56, 2: 59, 4: 64, 5: 68})
        found, (current, regions), work = shown(calls)
        self.assertEqual((current, regions[1], regions[2]), (4, (0, 0), (0, 0)))
        self.assertEqual((regions[3], regions[4], work["free"]), ((14, 14), (6, 6), 6))

    def test_the_last_region_can_be_sparse(self):
        # Regions 1 to 8 are filled; 15, in region 8, is kept, and the current region is 1 again.
        calls = [make(1, 0, 6)] * 14 + [make(1, 1, 6), make(1, 0, 6), drop(1, 0), start(), finish(), make(1, 2, 6),
                 drop(1, 2)]
        self.assertEqual(places(calls), {15: 128, 17: 16})
        found, (current, regions), work = shown(calls + [start(), step(2 + 8 + 1)])
        self.assertEqual((work["doing"], work["todo"], work["to_empty"], current), (MOVES, 1, [8], 1))
        found, (current, regions), work = shown(calls + [start(), finish()])
        self.assertEqual(([thing[:2] for thing in found], current, regions[8]), ([(15, 16)], 1, (0, 0)))

    def test_weak_ones_and_those_with_last_words_move(self):
        calls = [make(1, 0, 0, 2), weak(1, 1, 0), make(2, 0, 6), make(2, 0, 6), drop(2, 0), write(1, 0, 4),
                 write(1, 1, 5), start(), finish()]
        # Region 2, where 4 was, is bare, but the current one: there is their room.
        self.assertEqual(shown(calls)[0], [(1, 32, 2, 4, 1, []), (2, 34, 1, 5, 1, [1])])
        self.assertEqual(asked(calls + [drop(1, 0), start(), finish(), words(3, 0), look(1, 2, 1)])[-2:], [1, 1])

    def test_things_made_while_it_moves_are_healed(self):
        # 4 is made ahead of the move, in the current region, and holds 1's old place.
        calls = [make(1, 0, 6), make(1, 1, 6), make(1, 2, 1), drop(1, 1), start(), step(3 + 8 + 1), make(1, 3, 1),
                 put(1, 3, 0, 0)]
        self.assertEqual(shown(calls)[2]["doing"], MOVES)
        moved = calls + [step()]
        self.assertEqual(places(moved), {3: 32, 4: 35, 1: 38})
        self.assertEqual(fields(moved)[4], [1])
        end = calls + [finish(), make(2, 0, 6), make(2, 1, 6)]
        self.assertEqual(places(end), {3: 32, 4: 35, 1: 38, 5: 16, 6: 24})
        self.assertEqual(fields(end)[4], [1])

    def test_a_thing_dropped_while_it_sweeps_is_there_till_the_next_round(self):
        calls = [make(1, 0, 6), make(1, 0, 6), make(1, 1, 6), make(1, 0, 6), drop(1, 0), start(), step(3)]
        # Region 1 is bare and region 2 full: 5 is made in region 1, which is the current one then, and dropped.
        calls += [make(2, 0, 0), drop(2, 0), finish()]
        self.assertEqual(places(calls), {5: 16, 3: 18})
        self.assertEqual(places(calls + [start(), finish()]), {3: 18})


class NoRoomToMove(unittest.TestCase):
    # Of each region one of two things is kept; region 8 has both. No region is free, and the current one is full.
    FULL = []
    for kept in range(7):
        FULL += [make(1 + kept // 4, kept % 4, 6), make(3, 3, 6)]
    FULL += [make(3, 0, 6), make(3, 1, 6), drop(3, 3)]

    def test_nothing_is_to_do_any_more(self):
        calls = self.FULL + [start(), step(9 + 1 + 8 + 1)]
        found, regions, work = shown(calls)
        self.assertEqual((work["doing"], work["todo"], work["to_empty"]), (MOVES, 7, [1, 2, 3, 4, 5, 6, 7]))
        self.assertEqual(work["free"], 0)
        behind, regions_behind, work = shown(calls + [step()])
        self.assertEqual((behind, regions_behind), (found, regions))
        self.assertEqual((work["doing"], work["todo"], work["to_empty"]), (MOVES, 0, [1, 2, 3, 4, 5, 6, 7]))
        work = shown(calls + [step(2)])[2]
        self.assertEqual((work["doing"], work["todo"], work["to_empty"]), (HEALS, 9, [1, 2, 3, 4, 5, 6, 7]))

    def test_the_rest_stays_where_it_was(self):
        calls = self.FULL + [start(), finish()]
        found, (current, regions), work = shown(calls)
        self.assertEqual([thing[1] for thing in found], [16 * r for r in range(1, 8)] + [128, 136])
        self.assertEqual((current, [regions[r] for r in range(1, 9)]), (8, [(16, 8)] * 7 + [(16, 16)]))
        self.assertEqual((work["doing"], work["to_empty"], work["rounds"], work["free"]), (RESTS, [], 1, 0))
        self.assertEqual(last(calls + [make(3, 3, 0)]), -8)

    def test_some_move_and_some_do_not(self):
        # There is room for one behind what is given out of region 8; the region it leaves is free in the end alone.
        calls = self.FULL[:-2] + [drop(3, 3), start()]
        moving = calls + [step(8 + 1 + 8 + 1)]
        self.assertEqual((shown(moving)[2]["doing"], shown(moving)[2]["todo"]), (MOVES, 7))
        one = shown(moving + [step()])
        self.assertEqual((one[2]["todo"], one[2]["free"]), (6, 0))
        self.assertEqual(shown(moving + [step(2)])[2]["todo"], 0)
        found, (current, regions), work = shown(calls + [finish()])
        self.assertEqual([thing[:2] for thing in found][0], (3, 32))
        self.assertEqual([thing[:2] for thing in found][-2:], [(15, 128), (1, 136)])
        self.assertEqual([regions[r] for r in range(1, 9)], [(0, 0)] + [(16, 8)] * 6 + [(16, 16)])
        self.assertEqual(work["free"], 1)

    def test_the_next_round_goes_on(self):
        calls = self.FULL[:-2] + [drop(3, 3)] + [start(), finish()] * 4
        found, (current, regions), work = shown(calls)
        self.assertEqual(len(found), 8)
        self.assertEqual(sum(taken for given, taken in regions.values()), 64)
        self.assertEqual([given for given, taken in regions.values()].count(0), 4)

    def test_a_region_from_which_only_some_went(self):
        # Region 1 keeps 1 (two words) and 2 (six); there is room for two words, so 1 goes, and 2 lies there still.
        calls = [make(1, 0, 0), make(1, 1, 4), make(3, 3, 6)]
        for kept in range(6):
            calls += [make(2 if kept < 4 else 3, kept % 4, 6), make(1, 3, 6)]
        calls += [make(1, 2, 6), make(3, 2, 4), drop(3, 3), drop(1, 3), start(), finish()]
        found, (current, regions), work = shown(calls)
        self.assertEqual([thing[:2] for thing in found][0], (2, 18))
        self.assertEqual([thing[:2] for thing in found][-1], (1, 142))
        self.assertEqual((regions[1], regions[8]), ((16, 6), (16, 16)))
        self.assertEqual((work["free"], work["rounds"]), (0, 1))
        self.assertEqual(told(calls + [regs(1)])[-1][:3], [1, 2, 16])


class Healed(unittest.TestCase):
    """Each field and each root that held an old place, with another thing at that place behind the round."""

    def behind(self, setup):
        """The things by their numbers, when the region that was left is full of other things."""
        calls = setup + [start(), finish(), make(3, 2, 6), make(3, 3, 6)]
        found = {thing[0]: thing for thing in shown(calls)[0]}
        self.assertEqual(sorted(thing[1] for thing in found.values())[:2], [16, 24])
        return calls, found

    def test_registers_names_and_last_words(self):
        setup = [make(1, 0, 2), make(1, 1, 2, 2), make(3, 2, 6), make(3, 1, 6), copy(1, 3, 0), save(1, 2, 0),
                 drop(1, 1), drop(3, 2)]
        calls, found = self.behind(setup)
        self.assertEqual(shown(calls)[2]["waiting"], [2])
        self.assertEqual(told(calls + [regs(1), words(1, 1), get(1, 2, 1, 0)])[-3:],
                         [[1, 0, 0, 1, 0, 0, 1, 0], [2], [0]])

    def test_fields_of_plain_and_weak_ones(self):
        setup = [make(1, 0, 2), make(3, 2, 6), weak(1, 1, 0), make(1, 2, 4), put(1, 2, 3, 0), put(1, 0, 0, 2),
                 put(1, 0, 1, 0), drop(3, 2)]
        calls, found = self.behind(setup)
        self.assertEqual([found[n][5] for n in (1, 3, 4)], [[4, 1], [1], [0, 0, 0, 1]])
        self.assertEqual(asked(calls + [look(1, 3, 1), get(1, 3, 2, 3), get(1, 3, 0, 1), get(1, 3, 0, 0)])[-4:],
                         [1, 1, 1, 4])


class HealedInOrder(unittest.TestCase):
    """In which order fields are healed no call tells: it is seen on the house itself."""

    def test_by_their_places(self):
        house = House()
        for thread_call, numbers in (
            (call_make, (1, 0, 6, 0)), (call_make, (1, 1, 6, 0)), (call_make, (1, 2, 1, 0)), (call_make, (1, 1, 1, 0)),
            (call_put, (1, 2, 0, 0)), (call_put, (1, 1, 0, 0)), (call_put, (1, 0, 0, 0)),
        ):
            self.assertGreater(thread_call(house, *numbers), 0)
        call_start(house)
        # Three are looked at, the end of marking, eight regions, to moving, 1 moves from 16 to 38, to healing.
        self.assertEqual(call_step(house, 3 + 1 + 8 + 1 + 1 + 1), HEALS)
        held = []
        for turn in range(5):
            held.append([house.heap.things[place].fields[0] for place in (32, 35, 38)] + [house.roots.registers[1][0]])
            call_step(house, 1)
        self.assertEqual(held, [[16, 16, 16, 16], [38, 16, 16, 16], [38, 38, 16, 16], [38, 38, 38, 16],
                                [38, 38, 38, 38]])


class Agreement(unittest.TestCase):
    def test_asking_changes_nothing(self):
        calls = Sparse.HALF
        quiet = things_told(told(calls + [step(9), step(9), things()])[-1])
        self.assertEqual(shown(calls + [step(9), things(), step(9)])[0], quiet)


if __name__ == "__main__":
    unittest.main()
