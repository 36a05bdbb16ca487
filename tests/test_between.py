"""Threads at work between the steps: answered as where nothing is ever collected or moved."""

import unittest

from quietsweep.collector_calls import call_start, call_step
from quietsweep.thread_calls import call_copy, call_get, call_load, call_look, call_make, call_put, call_save, call_weak
from quietsweep.threads import House
from tests.spelling import (
    HEALS, MARKS, MOVES, RESTS, SWEEPS, asked, copy, drop, finish, get, last, load, look, make, put, read, regs, same,
    save, shown, start, step, told, weak, words, write,
)

# Region 1 keeps 1, 2 (whose last words wait) and 3 (weak, for 1), just half its words; 5, in region 2, holds 1 and 3,
# and 1 holds 5. Registers of all threads and two names hold them, too.
SETUP = [
    make(1, 0, 1), make(1, 1, 0, 2), weak(1, 2, 0), drop(1, 1), start(), finish(), make(3, 3, 6), drop(3, 3),
    make(1, 3, 2), put(1, 3, 0, 0), put(1, 3, 1, 2), put(1, 0, 0, 3), write(1, 0, 10), write(1, 2, 20), write(1, 3, 30),
    save(1, 0, 0), save(1, 1, 2), load(2, 0, 0), load(3, 0, 1), start(),
]
# Four are looked at, the end of marking, eight regions, to moving, three move, to healing, four heal, the end.
ROUND = 4 + 1 + 8 + 1 + 3 + 1 + 4 + 1

# What threads ask, and what is answered at whatever step.
BLOCK = [
    (read(1, 0), 10), (write(2, 0, 11), 10), (read(1, 0), 11), (same(1, 0, 0), 1), (same(1, 0, 3), 0),
    (get(1, 1, 3, 0), 1), (same(1, 1, 0), 1), (read(1, 1), 11), (get(1, 1, 3, 1), 3), (same(1, 1, 2), 1),
    (put(1, 3, 0, 3), 5), (get(1, 1, 3, 0), 5), (put(1, 3, 0, 0), 1), (get(1, 1, 0, 0), 5), (same(1, 1, 3), 1),
    (put(1, 0, 0, 0), 1), (get(1, 0, 0, 0), 1), (load(2, 1, 0), 1), (same(2, 0, 1), 1), (load(2, 2, 1), 3),
    (look(2, 3, 2), 1), (same(2, 3, 0), 1), (read(2, 2), 20), (write(2, 2, 21), 20), (read(1, 2), 21),
    (look(3, 1, 0), 1), (look(3, 0, 0), 1), (read(3, 0), 11), (weak(3, 2, 0), 6), (look(3, 3, 2), 1),
    (weak(3, 3, 3), 7), (look(3, 3, 3), 1), (same(3, 0, 3), 1), (save(3, 2, 0), 1), (load(1, 1, 2), 1),
    (copy(2, 3, 2), 3), (same(2, 3, 2), 1), (make(2, 1, 1), 8), (get(2, 3, 1, 0), 0), (put(2, 1, 0, 0), 1),
    (get(2, 3, 1, 0), 1), (same(2, 3, 0), 1), (words(2, 3), 2), (write(2, 3, 40), 0), (read(2, 3), 40),
    (put(2, 1, 0, 3), 2), (words(3, 1), 0), (get(2, 2, 1, 0), 2), (same(2, 2, 3), 1), (read(1, 3), 30),
]
REGS = [[1, 1, 3, 5, 1, 3, 1, 0], [1, 8, 2, 2, 1, 3, 1, 0], [1, 0, 6, 1, 1, 3, 1, 0]]
FIELDS = {1: [1], 2: [], 3: [1], 5: [1, 3], 6: [1], 8: [2]}
VALUES = {1: 11, 2: 40, 3: 21, 5: 30, 6: 0, 8: 0}


class InEachState(unittest.TestCase):
    def check(self, calls, picked):
        """The block's calls, which stand at these places, are answered so, and all is as it is to be in the end."""
        parts = told(calls)
        self.assertEqual([parts[at] for at in picked], [[answer] for call, answer in BLOCK])
        asking = [regs(1), regs(2), regs(3)]
        self.assertEqual(told(calls + asking)[-3:], REGS)
        self.assertEqual(told(calls + [finish()] + asking)[-3:], REGS)
        self.assertEqual(told(calls + [finish()] + asking + [start(), finish()] + asking)[-3:], REGS)
        found = shown(calls + [finish(), start(), finish()])[0]
        self.assertEqual({thing[0]: thing[5] for thing in found}, FIELDS)
        self.assertEqual({thing[0]: thing[3] for thing in found}, VALUES)

    def test_the_round_has_all_states(self):
        states = asked(SETUP + [step()] * ROUND)[len(SETUP):]
        self.assertEqual(states, [MARKS] * 4 + [SWEEPS] * 9 + [MOVES] * 4 + [HEALS] * 5 + [RESTS])

    def test_all_at_once_behind_each_step(self):
        for n in range(ROUND + 2):
            with self.subTest(steps=n):
                calls = SETUP + [step(n)]
                self.check(calls + [call for call, answer in BLOCK], range(len(calls), len(calls) + len(BLOCK)))

    def test_one_by_one_with_steps_in_between(self):
        for n in range(ROUND + 2):
            for every in (1, 2, 3):
                with self.subTest(steps=n, every=every):
                    calls = SETUP + [step(n)]
                    picked = []
                    for at, (call, answer) in enumerate(BLOCK):
                        picked.append(len(calls))
                        calls = calls + [call] + ([step()] if at % every == 0 else [])
                    self.check(calls, picked)

    def test_with_a_new_round_begun_behind_each_call(self):
        for n in range(0, ROUND, 3):
            calls = SETUP + [step(n)]
            picked = []
            for call, answer in BLOCK:
                picked.append(len(calls))
                calls = calls + [call, step(7), start()]
            with self.subTest(steps=n):
                self.check(calls + [finish()], picked)


class OldPlaces(unittest.TestCase):
    """Behind the move of 1, 2 and 3: what still holds the old places, call by call."""

    MOVED = SETUP + [step(4 + 1 + 8 + 1 + 3)]

    def after(self, calls):
        return asked(self.MOVED + calls)[len(self.MOVED):]

    def test_they_have_moved(self):
        found, (current, regions), work = shown(self.MOVED)
        self.assertEqual([thing[:2] for thing in found], [(5, 32), (1, 36), (2, 39), (3, 41)])
        self.assertEqual((work["doing"], work["todo"], work["to_empty"], work["waiting"]), (MOVES, 0, [1], [2]))
        self.assertEqual((regions[1], regions[2]), ((16, 8), (12, 12)))

    def test_what_is_written_is_read_behind_the_round(self):
        self.assertEqual(self.after([write(1, 0, 7), read(2, 0), finish(), read(1, 0), read(2, 0)]), [10, 7, 2, 7, 7])

    def test_what_is_put_is_got_behind_the_round(self):
        calls = [put(1, 0, 0, 2), get(2, 1, 0, 0), finish(), get(2, 1, 0, 0), get(1, 1, 0, 0)]
        self.assertEqual(self.after(calls), [3, 3, 2, 3, 3])

    def test_the_new_one_alone_is_told_by_things(self):
        found = {thing[0]: thing for thing in shown(self.MOVED + [write(1, 0, 7), put(1, 0, 0, 2)])[0]}
        self.assertEqual(found[1], (1, 36, 0, 7, 1, [3]))

    def test_same_with_an_old_and_a_new_place(self):
        self.assertEqual(self.after([copy(1, 1, 0), same(1, 0, 1), same(1, 1, 0), same(1, 0, 2)]), [1, 1, 1, 0])

    def test_each_way_into_a_register(self):
        for call, number in ((copy(1, 1, 0), 1), (load(1, 1, 0), 1), (get(1, 1, 3, 0), 1), (look(1, 1, 2), 1),
                             (words(1, 1), 2), (get(1, 1, 3, 1), 3)):
            self.assertEqual(self.after([call, write(1, 1, 9), finish(), read(1, 1)])[0], number)
            behind = [finish(), read(1, 1), make(3, 2, 6), make(3, 3, 6), regs(1)]
            parts = told(self.MOVED + [call, write(1, 1, 9)] + behind)
            self.assertEqual((parts[-4], parts[-1][1]), ([9], number))

    def test_a_register_and_a_field_of_the_same_thing(self):
        calls = [put(1, 0, 0, 0), get(1, 1, 0, 0), same(1, 0, 1), get(1, 0, 0, 0), same(1, 0, 1), finish(),
                 get(1, 1, 0, 0), same(1, 0, 1)]
        self.assertEqual(self.after(calls), [1, 1, 1, 1, 1, 2, 1, 1])

    def test_a_weak_one_for_it_and_a_name_for_it(self):
        calls = [weak(1, 1, 0), save(2, 3, 0), drop(1, 0), finish(), make(3, 2, 6), make(3, 3, 6), look(1, 0, 1),
                 load(2, 1, 3), read(2, 1)]
        self.assertEqual(self.after(calls), [6, 1, 0, 2, 7, 8, 1, 1, 10])

    def test_last_words_that_wait_at_an_old_place(self):
        self.assertEqual(self.after([words(3, 1), write(3, 1, 6), finish(), read(3, 1), words(3, 2)]), [2, 0, 2, 6, 0])
        self.assertEqual(self.after([finish(), words(3, 1), words(3, 2)]), [2, 2, 0])

    def test_a_refusal_means_the_thing_where_it_is_now(self):
        self.assertEqual(self.after([get(1, 1, 0, 1), put(1, 2, 0, 0), look(1, 1, 0), get(1, 1, 2, 0)]), [-3] * 4)


class NewPlaces(unittest.TestCase):
    """What is put anywhere is where the thing is now; no call tells a register's place, so the house itself is seen."""

    def test_registers_names_and_fields(self):
        house = House()
        for thread_call, numbers in (
            (call_make, (1, 0, 6, 0)), (call_make, (1, 1, 6, 0)), (call_make, (1, 2, 1, 0)), (call_weak, (1, 1, 0)),
            (call_save, (1, 0, 0)),
        ):
            self.assertGreater(thread_call(house, *numbers), 0)
        call_start(house)
        # Three are looked at, the end of marking, eight regions, to moving, and 1 moves from 16 to 38.
        self.assertEqual(call_step(house, 3 + 1 + 8 + 1 + 1), MOVES)
        self.assertEqual((house.roots.registers[1][0], house.roots.names[0], house.heap.things[16].moved), (16, 16, 38))
        for thread_call, numbers in ((call_copy, (1, 3, 0)), (call_load, (1, 3, 0)), (call_look, (1, 3, 1))):
            house.roots.registers[1][3] = 0
            self.assertEqual(thread_call(house, *numbers), 1)
            self.assertEqual(house.roots.registers[1][3], 38)
        call_put(house, 1, 2, 0, 0)
        call_get(house, 1, 3, 2, 0)
        call_save(house, 1, 1, 0)
        call_weak(house, 1, 3, 0)
        self.assertEqual((house.heap.things[32].fields, house.roots.names), ([38], [16, 38, 0, 0]))
        self.assertEqual(house.thing_in(1, 3).fields, [38])


class Overwritten(unittest.TestCase):
    # 1 holds 2, which nothing else holds.
    HELD = [make(1, 0, 1), make(1, 1), put(1, 0, 0, 1), drop(1, 1)]

    def state(self, calls):
        found, regions, work = shown(calls)
        return {thing[0]: thing[4] for thing in found}, work["grey"]

    def test_what_a_field_held_is_shaded_while_it_marks(self):
        calls = self.HELD + [start()]
        self.assertEqual(self.state(calls), ({1: 1, 2: 0}, 1))
        self.assertEqual(self.state(calls + [put(1, 0, 0, 3)]), ({1: 1, 2: 1}, 2))

    def test_it_is_kept_where_a_register_has_it_by_then(self):
        calls = self.HELD + [start(), get(1, 2, 0, 0), put(1, 0, 0, 3), finish()]
        self.assertEqual(self.state(calls), ({1: 1, 2: 1}, 0))
        self.assertEqual(last(calls + [copy(1, 2, 2)]), 2)

    def test_what_it_holds_is_kept(self):
        # 4 holds 3, which holds 2; 3 is overwritten, and of 3 the thread has only what it holds.
        calls = self.HELD + [get(1, 1, 0, 0), make(1, 0, 1), put(1, 0, 0, 1), make(1, 1, 1), put(1, 1, 0, 0)]
        calls += [drop(1, 0), start(), get(1, 2, 1, 0), get(1, 3, 2, 0), put(1, 1, 0, 0), drop(1, 2), finish()]
        self.assertEqual(sorted(self.state(calls)[0]), [2, 3, 4])
        self.assertEqual(last(calls + [copy(1, 3, 3)]), 2)

    def test_if_nobody_has_it_it_is_gone_a_round_later(self):
        calls = self.HELD + [start(), put(1, 0, 0, 3), finish()]
        self.assertEqual(sorted(self.state(calls)[0]), [1, 2])
        self.assertEqual(sorted(self.state(calls + [start(), finish()])[0]), [1])

    def test_one_that_is_marked_does_not_wait_again(self):
        calls = self.HELD + [start(), step(2)]
        self.assertEqual(self.state(calls), ({1: 1, 2: 1}, 0))
        self.assertEqual(self.state(calls + [put(1, 0, 0, 3)]), ({1: 1, 2: 1}, 0))

    def test_it_is_put_over_itself(self):
        calls = self.HELD + [start(), get(1, 1, 0, 0)]
        self.assertEqual(self.state(calls), ({1: 1, 2: 0}, 1))
        self.assertEqual(self.state(calls + [put(1, 0, 0, 1)]), ({1: 1, 2: 1}, 2))

    def test_nothing_is_overwritten(self):
        calls = [make(1, 0, 1), start()]
        self.assertEqual(self.state(calls + [put(1, 0, 0, 0)]), ({1: 1}, 1))

    def test_what_is_put_is_not_shaded(self):
        # 3 has an empty field: 2 is put there.
        calls = self.HELD + [make(1, 2, 1), start(), get(1, 1, 0, 0), put(1, 2, 0, 1)]
        self.assertEqual(self.state(calls), ({1: 1, 2: 0, 3: 1}, 2))

    def test_it_waits_last(self):
        # 2 and 4 hold 3 and 5; 2 is overwritten behind the roots 1 and 4.
        calls = [make(1, 0, 1), make(1, 1, 1), put(1, 0, 0, 1), make(1, 2), put(1, 1, 0, 2), make(1, 1, 1), make(1, 2),
                 put(1, 1, 0, 2), drop(1, 2), start(), put(1, 0, 0, 3)]
        found = [sorted(n for n, marked in self.state(calls + [step(k)])[0].items() if marked) for k in range(4)]
        self.assertEqual(found, [[1, 2, 4], [1, 2, 4], [1, 2, 4, 5], [1, 2, 3, 4, 5]])

    def test_not_while_it_sweeps(self):
        # 2 is put into 1 while it sweeps, and overwritten: it was marked, and nothing waits.
        for n in range(3, 12):
            calls = self.HELD + [start(), step(n), put(1, 0, 0, 3)]
            self.assertEqual(self.state(calls)[1], 0)
            self.assertEqual(shown(calls)[2], shown(self.HELD + [start(), step(n)])[2])

    def test_not_at_rest(self):
        self.assertEqual(self.state(self.HELD + [put(1, 0, 0, 3)]), ({1: 1, 2: 1}, 0))
        self.assertEqual(sorted(self.state(self.HELD + [put(1, 0, 0, 3), start(), finish()])[0]), [1])

    def test_a_refused_put_shades_nothing(self):
        calls = self.HELD + [start(), put(1, 0, 0, 4), put(1, 0, 1, 3)]
        self.assertEqual(self.state(calls), ({1: 1, 2: 0}, 1))

    def test_other_calls_shade_nothing(self):
        calls = self.HELD + [start()]
        for call in (get(1, 1, 0, 0), copy(1, 1, 0), drop(1, 0), load(1, 0, 0), save(1, 0, 0), same(1, 0, 1),
                     write(1, 0, 3), read(1, 0), words(1, 0)):
            self.assertEqual(self.state(calls + [call]), ({1: 1, 2: 0}, 1))
        more = calls + [get(1, 1, 0, 0), weak(1, 2, 1)]
        self.assertEqual(self.state(more), ({1: 1, 2: 0, 3: 1}, 1))
        self.assertEqual(self.state(calls + [get(1, 1, 0, 0), save(1, 2, 1)]), ({1: 1, 2: 0}, 1))


class LookedAt(unittest.TestCase):
    # 2 is weak, for 1, which nobody can come to otherwise, and which holds 3.
    WEAK = [make(1, 0, 1), weak(1, 1, 0), make(1, 2), put(1, 0, 0, 2), drop(1, 0), drop(1, 2)]

    def state(self, calls):
        found, regions, work = shown(calls)
        return {thing[0]: thing[4] for thing in found}, work["grey"]

    def test_it_is_shaded_while_it_marks(self):
        for n, grey in ((0, 2), (1, 1)):
            calls = self.WEAK + [start(), step(n)]
            self.assertEqual(self.state(calls), ({1: 0, 2: 1, 3: 0}, grey - 1))
            self.assertEqual(last(calls + [look(1, 3, 1)]), 1)
            self.assertEqual(self.state(calls + [look(1, 3, 1)]), ({1: 1, 2: 1, 3: 0}, grey))
            self.assertEqual(self.state(calls + [look(1, 3, 1), finish()]), ({1: 1, 2: 1, 3: 1}, 0))
            self.assertEqual(asked(calls + [look(1, 3, 1), finish(), look(1, 0, 1), get(1, 0, 0, 0)])[-2:], [1, 3])

    def test_it_is_kept_for_the_round_even_if_it_is_dropped(self):
        calls = self.WEAK + [start(), look(1, 3, 1), drop(1, 3), finish()]
        self.assertEqual(sorted(self.state(calls)[0]), [1, 2, 3])
        self.assertEqual(sorted(self.state(calls + [start(), finish()])[0]), [2])

    def test_into_the_weak_one_s_own_register(self):
        calls = self.WEAK + [start(), step(1), look(1, 1, 1)]
        self.assertEqual(self.state(calls), ({1: 1, 2: 1, 3: 0}, 1))
        self.assertEqual(sorted(self.state(calls + [finish()])[0]), [1, 2, 3])
        self.assertEqual(sorted(self.state(calls + [finish(), start(), finish()])[0]), [1, 3])

    def test_behind_the_end_of_marking_it_has_let_go(self):
        for n in range(2, 12):
            self.assertEqual(last(self.WEAK + [start(), step(n), look(1, 3, 1)]), 0)

    def test_nothing_is_shaded_at_rest(self):
        self.assertEqual(self.state(self.WEAK + [look(1, 3, 1)]), ({1: 1, 2: 1, 3: 1}, 0))

    def test_nothing_is_shaded_while_it_sweeps(self):
        held = [make(1, 0), weak(1, 1, 0), start(), step(3)]
        self.assertEqual(self.state(held + [look(1, 2, 1)]), ({1: 1, 2: 1}, 0))

    def test_a_dying_one_looked_at_in_time_does_not_die(self):
        calls = [make(1, 0, 0, 2), weak(1, 1, 0), drop(1, 0), start(), step(1), look(1, 0, 1), finish()]
        self.assertEqual(shown(calls)[2]["waiting"], [])
        self.assertEqual([thing[2] for thing in shown(calls)[0]], [2, 1])


class LastWords(unittest.TestCase):
    def test_told_at_once_while_it_marks(self):
        calls = [make(1, 0, 1, 2), make(1, 1), put(1, 0, 0, 1), drop(1, 0), drop(1, 1), start(), step(1), words(2, 0)]
        self.assertEqual(last(calls), 1)
        self.assertEqual(shown(calls)[2]["waiting"], [])
        end = calls + [finish(), get(2, 1, 0, 0)]
        self.assertEqual(last(end), 2)
        self.assertEqual(sorted(thing[0] for thing in shown(end)[0]), [1, 2])

    def test_told_and_dropped_it_is_there_for_the_round(self):
        calls = [make(1, 0, 0, 2), drop(1, 0), start(), step(1), words(2, 0), drop(2, 0), finish()]
        self.assertEqual([thing[0] for thing in shown(calls)[0]], [1])
        self.assertEqual(shown(calls + [start(), finish()])[0], [])
        self.assertEqual(last(calls + [start(), finish(), words(2, 0)]), 0)


if __name__ == "__main__":
    unittest.main()
