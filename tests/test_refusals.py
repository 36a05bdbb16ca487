"""Points 1 to 3: what is refused, in which order, and that a refusal leaves all as it was."""

import unittest

from tests.spelling import (
    MARKS, MOST, SWEEPS, asked, copy, drop, finish, get, last, load, look, make, pace, put, read, regs, same, save,
    start, step, survey, told, weak, words, work, work_told, write,
)

# Thread 1: a plain thing of two fields in 0, a weak one in 1, one with last words in 2, nothing in 3.
SETUP = [
    make(1, 0, 2), weak(1, 1, 0), make(1, 2, 1, 2), put(1, 0, 1, 2), write(1, 0, 11), write(1, 1, 12), write(1, 2, 13),
    save(1, 1, 2), save(1, 3, 1), load(2, 0, 1), load(3, 2, 3),
]

# An answered call of each kind, and where in it a thread stands, and where registers and names do.
ANSWERED = {
    "make": (make(1, 3, 1, 0), (2,)),
    "weak": (weak(1, 3, 0), (2, 3)),
    "get": (get(1, 3, 0, 1), (2, 3)),
    "put": (put(1, 0, 1, 2), (2, 4)),
    "copy": (copy(1, 3, 0), (2, 3)),
    "drop": (drop(1, 0), (2,)),
    "load": (load(1, 3, 1), (2, 3)),
    "save": (save(1, 0, 2), (2, 3)),
    "same": (same(1, 0, 2), (2, 3)),
    "write": (write(1, 0, 5), (2,)),
    "read": (read(1, 0), (2,)),
    "look": (look(1, 3, 1), (2, 3)),
    "words": (words(1, 3), (2,)),
    "regs": (regs(1), ()),
}


def with_number(call, at, number):
    return call[:at] + [number] + call[at + 1:]


class Refusals(unittest.TestCase):
    def refused(self, call, number, setup=SETUP):
        """The call answers the number, and all that can be seen afterwards is as if it wasn't asked."""
        parts = told(setup + [call] + survey())
        self.assertEqual(parts[len(setup)], [number], call)
        self.assertEqual(parts[:len(setup)] + parts[len(setup) + 1:], told(setup + survey()), call)


class Bounds(Refusals):
    def test_the_calls_that_are_varied_are_answered(self):
        for name, (call, slots) in ANSWERED.items():
            with self.subTest(name):
                self.assertGreaterEqual(told(SETUP + [call])[-1][0], 0)

    def test_thread(self):
        for name, (call, slots) in ANSWERED.items():
            for thread in (0, 4, MOST):
                with self.subTest(name, thread=thread):
                    self.refused(with_number(call, 1, thread), -1)

    def test_register_or_name(self):
        for name, (call, slots) in ANSWERED.items():
            for at in slots:
                for slot in (4, MOST):
                    with self.subTest(name, at=at, slot=slot):
                        self.refused(with_number(call, at, slot), -1)

    def test_the_bounds_themselves_are_answered(self):
        for thread in (1, 2, 3):
            for slot in (0, 3):
                calls = [
                    make(thread, slot, 1), weak(thread, slot, slot), make(thread, slot, 1), put(thread, slot, 0, slot),
                    get(thread, slot, slot, 0), copy(thread, slot, slot), save(thread, slot, slot),
                    load(thread, slot, slot), same(thread, slot, slot), write(thread, slot, 4), read(thread, slot),
                    weak(thread, slot, slot), look(thread, slot, slot), drop(thread, slot), words(thread, slot),
                ]
                with self.subTest(thread=thread, slot=slot):
                    self.assertEqual(asked(calls), [1, 2, 3, 3, 3, 3, 3, 3, 1, 0, 4, 4, 3, 0, 0])
                    self.assertEqual(len(told([regs(thread)])[0]), 8)

    def test_fields_of_make(self):
        self.assertEqual(last([make(1, 0, 6)]), 1)
        for fields in (7, 14, MOST):
            self.refused(make(1, 0, fields), -1)

    def test_sort_of_make(self):
        for sort, answer in ((0, 1), (2, 1), (1, -1), (3, -1), (MOST, -1)):
            self.assertEqual(asked([make(1, 0, 0, sort)]), [answer])
        for sort in (1, 3, MOST):
            self.refused(make(1, 0, 0, sort), -1)

    def test_value_of_write(self):
        self.assertEqual(asked([make(1, 0), write(1, 0, 1000000), read(1, 0)]), [1, 0, 1000000])
        for value in (1000001, MOST):
            self.refused(write(1, 0, value), -1)

    def test_steps(self):
        self.assertEqual(asked([step(0), step(200)]), [0, 0])
        for n in (201, MOST):
            self.refused(step(n), -1)
            self.refused(step(n), -1, SETUP + [start()])
            self.refused(step(n), -1, SETUP + [start(), step(6)])

    def test_pace(self):
        self.assertEqual(asked([pace(0, 0), pace(20, 8), pace(20, 0), pace(0, 8)]), [0, 0, 0, 0])
        for setup in (SETUP, SETUP + [pace(2, 8)], SETUP + [pace(3, 7), start(), step(5)]):
            for k, low in ((21, 0), (21, 8), (MOST, 0), (0, 9), (20, 9), (0, MOST), (21, 9), (MOST, MOST)):
                self.refused(pace(k, low), -1, setup)

    def test_bounds_hold_in_each_state(self):
        for steps in (0, 4, 6, 9):
            setup = SETUP + [start(), step(steps)]
            for call in (make(1, 0, 7), weak(1, 0, 4), get(4, 0, 0, 0), put(1, 0, 0, 4), look(1, 4, 1), words(0, 0),
                         words(1, MOST), regs(4), regs(MOST)):
                self.refused(call, -1, setup)


class NoThing(Refusals):
    def test_a_register_in_which_there_is_no_thing(self):
        for call in (weak(1, 0, 3), get(1, 0, 3, 0), put(1, 3, 0, 0), write(1, 3, 1), read(1, 3), look(1, 0, 3),
                     look(1, 3, 3)):
            self.refused(call, -2)

    def test_a_register_that_was_dropped(self):
        for call in (weak(1, 1, 0), get(1, 1, 0, 0), put(1, 0, 0, 1), write(1, 0, 1), read(1, 0), look(1, 1, 0)):
            self.refused(call, -2, SETUP + [drop(1, 0)])

    def test_another_thread_s_register_does_not_help(self):
        for call in (weak(2, 0, 2), get(2, 0, 2, 0), put(2, 2, 0, 0), write(2, 2, 1), read(2, 2), look(2, 0, 1)):
            self.refused(call, -2)

    def test_the_others_take_nothing(self):
        calls = [copy(1, 3, 3), drop(1, 3), save(1, 0, 3), load(1, 3, 0), same(1, 3, 3), put(1, 0, 0, 3)]
        self.assertEqual(asked(SETUP + calls)[len(SETUP):], [0, 0, 0, 0, 1, 0])


class NoField(Refusals):
    def test_get_and_put_on_a_weak_one(self):
        for i in (0, 1, MOST):
            self.refused(get(1, 3, 1, i), -3)
            self.refused(put(1, 1, i, 0), -3)

    def test_get_and_put_on_a_field_that_is_not_there(self):
        for fields in range(7):
            setup = SETUP + [make(1, 0, fields)]
            for i in (fields, fields + 1, MOST):
                with self.subTest(fields=fields, i=i):
                    self.refused(get(1, 3, 0, i), -3, setup)
                    self.refused(put(1, 0, i, 2), -3, setup)

    def test_the_last_field_is_there(self):
        for fields in range(1, 7):
            calls = [make(1, 0, fields), put(1, 0, fields - 1, 0), get(1, 1, 0, fields - 1)]
            self.assertEqual(asked(calls), [1, 1, 1])


class NotWeak(Refusals):
    def test_look_on_a_thing_that_is_not_weak(self):
        for setup in (SETUP, SETUP + [start()], SETUP + [start(), step(6)]):
            for q in (0, 2):
                for target in (q, 3):
                    self.refused(look(1, target, q), -3, setup)

    def test_look_on_what_a_weak_one_referred_to(self):
        self.assertEqual(asked(SETUP + [look(1, 1, 1), look(1, 1, 1)])[-2:], [1, -3])

    def test_look_on_one_of_one_field(self):
        self.refused(look(1, 0, 0), -3, SETUP + [make(1, 0, 1), put(1, 0, 0, 1)])

    def test_look_where_a_weak_one_has_let_go(self):
        calls = [make(1, 0), weak(1, 1, 0), drop(1, 0), start(), finish(), look(1, 1, 1), look(1, 1, 1)]
        self.assertEqual(asked(calls)[-2:], [0, -2])


class NotAtRest(Refusals):
    # Region 1 keeps one thing of eight words, so that the round moves and heals.
    SPARSE = [make(1, 0, 6), make(1, 1, 6), make(1, 2, 6), drop(1, 1)]

    def test_start_in_each_state_but_at_rest(self):
        state_of = {}
        for steps in range(1, 30):
            state_of.setdefault(last(self.SPARSE + [start(), step(steps)]), []).append(steps)
        self.assertEqual(sorted(state_of), [0, 1, 2, 3, 4])
        for state in (1, 2, 3, 4):
            for steps in state_of[state]:
                self.refused(start(), -8, self.SPARSE + [start(), step(steps)])
        for steps in state_of[0]:
            self.assertEqual(last(self.SPARSE + [start(), step(steps), start()]), 2)

    def test_start_at_once_behind_start(self):
        self.refused(start(), -8, SETUP + [start()])

    def test_start_where_allocating_began(self):
        self.refused(start(), -8, SETUP + [pace(1, 8), make(1, 3, 0)])


class Order(Refusals):
    def test_bounds_come_ahead_of_no_thing(self):
        for call in (
            weak(0, 0, 3), weak(1, 4, 3), get(4, 0, 3, 0), get(1, 4, 3, MOST), put(0, 3, 0, 0), put(1, 3, MOST, 4),
            write(4, 3, 1), write(1, 3, 1000001), read(0, 3), look(0, 0, 3), look(1, 4, 3), look(1, MOST, 0),
        ):
            self.refused(call, -1)

    def test_bounds_come_ahead_of_no_field(self):
        for call in (get(0, 0, 1, 0), get(1, 4, 1, 0), get(1, MOST, 0, 2), put(4, 1, 0, 0), put(1, 0, 2, 4)):
            self.refused(call, -1)

    def test_no_thing_comes_ahead_of_no_field(self):
        for i in (0, 6, MOST):
            self.refused(get(1, 0, 3, i), -2)
            self.refused(put(1, 3, i, 0), -2)
        self.refused(look(1, 0, 3), -2)

    def test_bounds_and_no_thing_leave_nothing_paid(self):
        for call, number in ((make(1, 0, 7), -1), (make(1, 4, 0), -1), (make(1, 0, 0, 1), -1), (weak(4, 0, 0), -1),
                             (weak(1, 4, 0), -1), (weak(1, 0, 4), -1), (weak(1, 0, 3), -2)):
            for setup in ([], [start()], [start(), step(5)]):
                self.refused(call, number, SETUP + [pace(3, 8)] + setup)

    def test_bounds_and_no_thing_come_ahead_of_no_room(self):
        full = SETUP + [make(3, 3, 6)] * 16
        self.assertEqual(asked(full + [make(1, 0, 6), weak(1, 0, 2), make(1, 0, 7), make(1, 0, 6, 1),
                                       make(0, 0, 6), make(1, 4, 6), weak(4, 0, 2), weak(1, 4, 2), weak(1, 0, 4),
                                       weak(1, 0, 3)])[len(full):],
                         [-8, -8, -1, -1, -1, -1, -1, -1, -1, -2])


class NoRoom(Refusals):
    def test_make_and_weak_leave_what_was_made(self):
        full = SETUP + [make(3, 3, 6)] * 14
        self.assertEqual(last(full), 17)
        for call in (make(1, 0, 6), make(1, 3, 0, 2), weak(1, 3, 0), weak(1, 0, 0)):
            self.refused(call, -8, full)

    def test_what_is_left_of_the_current_region_is_left_still(self):
        nearly = SETUP + [make(3, 3, 6)] * 13 + [make(3, 3, 4)]
        self.assertEqual(last(nearly), 17)
        for call in (make(1, 0, 6), make(1, 3, 1, 2), weak(1, 3, 0), weak(1, 0, 0)):
            self.refused(call, -8, nearly)
        self.assertEqual(last(nearly + [make(1, 0)]), 18)

    def test_no_number_is_used_up(self):
        calls = [make(1, 0, 6)] * 15 + [make(1, 0, 5), make(1, 0), weak(1, 0, 0), make(1, 1, 6)]
        self.assertEqual(asked(calls)[-4:], [16, -8, -8, -8])
        calls = [make(1, 0, 6)] * 15 + [make(1, 0, 4), make(1, 0, 1), weak(1, 0, 0), make(1, 1), make(1, 1)]
        self.assertEqual(asked(calls)[-5:], [16, -8, -8, 17, -8])

    def test_allocating_has_paid(self):
        full = SETUP + [make(3, 3, 6)] * 14 + [pace(1, 8)]
        self.assertEqual(last(full[:-1]), 17)
        for call, words_paid in ((make(1, 0, 1), 3), (weak(1, 3, 0), 3), (make(1, 0, 4, 2), 6), (make(1, 1, 0), 2)):
            parts = told(full + [call] + survey())
            self.assertEqual(parts[len(full)], [-8], call)
            paid = told(full + [start(), step(words_paid)] + survey())
            # Behind the refusal all is as if it had begun, and done so many steps.
            self.assertEqual(parts[len(full) + 1:], paid[len(full) + 2:], call)

    def test_what_is_paid_may_make_the_room(self):
        full = [make(1, 0, 6)] * 16
        self.assertEqual(last(full + [make(1, 1, 6)]), -8)
        # Eight steps: a thing looked at, the end of marking, and six regions, each of them bare.
        parts = told(full + [pace(1, 8), make(1, 1, 6), work()])[-2:]
        self.assertEqual(parts[0], [17])
        self.assertEqual((work_told(parts[1])["doing"], work_told(parts[1])["todo"]), (SWEEPS, 2))

    def test_paid_again_and_again_where_all_is_held(self):
        held = [make(t, r, 6) for t in (1, 2, 3) for r in range(4)] + [save(1, n, n) for n in range(4)]
        held += [make(1, r, 6) for r in range(4)] + [pace(1, 8)]
        for times, grey in ((1, 8), (2, 0)):
            parts = told(held + [make(1, 0, 6)] * times + [work()])
            self.assertEqual(parts[len(held):-1], [[-8]] * times)
            self.assertEqual((work_told(parts[-1])["doing"], work_told(parts[-1])["grey"]), (MARKS, grey))

    def test_forgotten_things_keep_their_room(self):
        calls = [make(1, 0, 6), drop(1, 0)] * 16 + [make(1, 0)]
        self.assertEqual(last(calls), -8)
        self.assertEqual(asked(calls)[-3:-1], [16, 0])


if __name__ == "__main__":
    unittest.main()
