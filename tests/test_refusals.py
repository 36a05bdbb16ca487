"""Points 1 to 3: what is refused, in which order, and that a refusal leaves all as it was."""

import unittest

from tests.spelling import (
    MOST, asked, copy, drop, get, last, load, make, put, read, same, save, survey, weak, write,
)

# Thread 1: a plain thing of two fields in 0, a weak one in 1, one with last words in 2, nothing in 3.
SETUP = [
    make(1, 0, 2), weak(1, 1, 0), make(1, 2, 1, 2), put(1, 0, 1, 2), write(1, 0, 11), write(1, 1, 12), write(1, 2, 13),
    save(1, 1, 2), save(1, 3, 1), load(2, 0, 1), load(3, 2, 3),
]

# An answered call of each kind, and where in it a thread stands, and where registers and names do.
ANSWERED = {
    "make": (make(1, 3, 1, 0), (2,)),
    "weak": (weak(1, 3, 0), (2, 3)),
    "get": (get(1, 3, 0, 1), (2, 3)),
    "put": (put(1, 0, 1, 2), (2, 4)),
    "copy": (copy(1, 3, 0), (2, 3)),
    "drop": (drop(1, 0), (2,)),
    "load": (load(1, 3, 1), (2, 3)),
    "save": (save(1, 0, 2), (2, 3)),
    "same": (same(1, 0, 2), (2, 3)),
    "write": (write(1, 0, 5), (2,)),
    "read": (read(1, 0), (2,)),
}


def with_number(call, at, number):
    return call[:at] + [number] + call[at + 1:]


class Refusals(unittest.TestCase):
    def refused(self, call, number, setup=SETUP):
        """The call answers the number, and all that can be seen afterwards is as if it wasn't asked."""
        told = asked(setup + [call] + survey())
        self.assertEqual(told[len(setup)], number, call)
        self.assertEqual(told[:len(setup)] + told[len(setup) + 1:], asked(setup + survey()), call)


class Bounds(Refusals):
    def test_the_calls_that_are_varied_are_answered(self):
        for name, (call, slots) in ANSWERED.items():
            with self.subTest(name):
                self.assertGreaterEqual(last(SETUP + [call]), 0)

    def test_thread(self):
        for name, (call, slots) in ANSWERED.items():
            for thread in (0, 4, MOST):
                with self.subTest(name, thread=thread):
                    self.refused(with_number(call, 1, thread), -1)

    def test_register_or_name(self):
        for name, (call, slots) in ANSWERED.items():
            for at in slots:
                for slot in (4, MOST):
                    with self.subTest(name, at=at, slot=slot):
                        self.refused(with_number(call, at, slot), -1)

    def test_the_bounds_themselves_are_answered(self):
        for thread in (1, 2, 3):
            for slot in (0, 3):
                calls = [
                    make(thread, slot, 1), weak(thread, slot, slot), make(thread, slot, 1), put(thread, slot, 0, slot),
                    get(thread, slot, slot, 0), copy(thread, slot, slot), save(thread, slot, slot),
                    load(thread, slot, slot), same(thread, slot, slot), write(thread, slot, 4), read(thread, slot),
                    drop(thread, slot),
                ]
                with self.subTest(thread=thread, slot=slot):
                    self.assertEqual(asked(calls), [1, 2, 3, 3, 3, 3, 3, 3, 1, 0, 4, 0])

    def test_fields_of_make(self):
        self.assertEqual(last([make(1, 0, 6)]), 1)
        for fields in (7, 14, MOST):
            self.refused(make(1, 0, fields), -1)

    def test_sort_of_make(self):
        for sort, answer in ((0, 1), (2, 1), (1, -1), (3, -1), (MOST, -1)):
            self.assertEqual(asked([make(1, 0, 0, sort)]), [answer])
        for sort in (1, 3, MOST):
            self.refused(make(1, 0, 0, sort), -1)

    def test_value_of_write(self):
        self.assertEqual(asked([make(1, 0), write(1, 0, 1000000), read(1, 0)]), [1, 0, 1000000])
        for value in (1000001, MOST):
            self.refused(write(1, 0, value), -1)


class NoThing(Refusals):
    def test_a_register_in_which_there_is_no_thing(self):
        for call in (weak(1, 0, 3), get(1, 0, 3, 0), put(1, 3, 0, 0), write(1, 3, 1), read(1, 3)):
            self.refused(call, -2)

    def test_a_register_that_was_dropped(self):
        for call in (weak(1, 1, 0), get(1, 1, 0, 0), put(1, 0, 0, 1), write(1, 0, 1), read(1, 0)):
            self.refused(call, -2, SETUP + [drop(1, 0)])

    def test_another_thread_s_register_does_not_help(self):
        for call in (weak(2, 0, 2), get(2, 0, 2, 0), put(2, 2, 0, 0), write(2, 2, 1), read(2, 2)):
            self.refused(call, -2)

    def test_the_others_take_nothing(self):
        calls = [copy(1, 3, 3), drop(1, 3), save(1, 0, 3), load(1, 3, 0), same(1, 3, 3), put(1, 0, 0, 3)]
        self.assertEqual(asked(SETUP + calls)[len(SETUP):], [0, 0, 0, 0, 1, 0])


class NoField(Refusals):
    def test_get_and_put_on_a_weak_one(self):
        for i in (0, 1, MOST):
            self.refused(get(1, 3, 1, i), -3)
            self.refused(put(1, 1, i, 0), -3)

    def test_get_and_put_on_a_field_that_is_not_there(self):
        for fields in range(7):
            setup = SETUP + [make(1, 0, fields)]
            for i in (fields, fields + 1, MOST):
                with self.subTest(fields=fields, i=i):
                    self.refused(get(1, 3, 0, i), -3, setup)
                    self.refused(put(1, 0, i, 2), -3, setup)

    def test_the_last_field_is_there(self):
        for fields in range(1, 7):
            calls = [make(1, 0, fields), put(1, 0, fields - 1, 0), get(1, 1, 0, fields - 1)]
            self.assertEqual(asked(calls), [1, 1, 1])


class Order(Refusals):
    def test_bounds_come_ahead_of_no_thing(self):
        for call in (
            weak(0, 0, 3), weak(1, 4, 3), get(4, 0, 3, 0), get(1, 4, 3, MOST), put(0, 3, 0, 0), put(1, 3, MOST, 4),
            write(4, 3, 1), write(1, 3, 1000001), read(0, 3),
        ):
            self.refused(call, -1)

    def test_bounds_come_ahead_of_no_field(self):
        for call in (get(0, 0, 1, 0), get(1, 4, 1, 0), get(1, MOST, 0, 2), put(4, 1, 0, 0), put(1, 0, 2, 4)):
            self.refused(call, -1)

    def test_no_thing_comes_ahead_of_no_field(self):
        for i in (0, 6, MOST):
            self.refused(get(1, 0, 3, i), -2)
            self.refused(put(1, 3, i, 0), -2)

    def test_bounds_and_no_thing_come_ahead_of_no_room(self):
        full = SETUP + [make(3, 3, 6)] * 16
        self.assertEqual(asked(full + [make(1, 0, 6), weak(1, 0, 2), make(1, 0, 7), make(1, 0, 6, 1),
                                       make(0, 0, 6), make(1, 4, 6), weak(4, 0, 2), weak(1, 4, 2), weak(1, 0, 4),
                                       weak(1, 0, 3)])[len(full):],
                         [-8, -8, -1, -1, -1, -1, -1, -1, -1, -2])


class NoRoom(Refusals):
    def test_make_and_weak_leave_what_was_made(self):
        full = SETUP + [make(3, 3, 6)] * 14
        self.assertEqual(last(full), 17)
        for call in (make(1, 0, 6), make(1, 3, 0, 2), weak(1, 3, 0), weak(1, 0, 0)):
            self.refused(call, -8, full)

    def test_what_is_left_of_the_current_region_is_left_still(self):
        nearly = SETUP + [make(3, 3, 6)] * 13 + [make(3, 3, 4)]
        self.assertEqual(last(nearly), 17)
        for call in (make(1, 0, 6), make(1, 3, 1, 2), weak(1, 3, 0), weak(1, 0, 0)):
            self.refused(call, -8, nearly)
        self.assertEqual(last(nearly + [make(1, 0)]), 18)

    def test_no_number_is_used_up(self):
        calls = [make(1, 0, 6)] * 15 + [make(1, 0, 5), make(1, 0), weak(1, 0, 0), make(1, 1, 6)]
        self.assertEqual(asked(calls)[-4:], [16, -8, -8, -8])
        calls = [make(1, 0, 6)] * 15 + [make(1, 0, 4), make(1, 0, 1), weak(1, 0, 0), make(1, 1), make(1, 1)]
        self.assertEqual(asked(calls)[-5:], [16, -8, -8, 17, -8])

    def test_forgotten_things_keep_their_room(self):
        calls = [make(1, 0, 6), drop(1, 0)] * 16 + [make(1, 0)]
        self.assertEqual(last(calls), -8)
        self.assertEqual(asked(calls)[-3:-1], [16, 0])


if __name__ == "__main__":
    unittest.main()
