"""Each of the calls at ordinary inputs."""

import unittest

from quietsweep.thread_calls import call_make, call_weak
from quietsweep.threads import House
from tests.spelling import asked, copy, drop, get, last, load, make, put, read, same, save, weak, write


class Make(unittest.TestCase):
    def test_numbers_go_by_birth_from_one(self):
        self.assertEqual(asked([make(1, 0), make(2, 3, 6), make(3, 1, 1, 2), make(1, 0)]), [1, 2, 3, 4])

    def test_it_is_in_the_register(self):
        self.assertEqual(asked([make(2, 1), copy(2, 1, 1), copy(2, 0, 0), copy(1, 1, 1)]), [1, 1, 0, 0])

    def test_fields_and_value_are_zero(self):
        calls = [make(1, 0, 6)] + [get(1, 1, 0, i) for i in range(6)] + [read(1, 0)]
        self.assertEqual(asked(calls), [1, 0, 0, 0, 0, 0, 0, 0])

    def test_a_refused_one_uses_no_number(self):
        self.assertEqual(asked([make(1, 0), make(1, 0, 7), make(1, 0, 0, 1), make(1, 0)]), [1, -1, -1, 2])


class Weak(unittest.TestCase):
    def test_it_is_made_and_in_the_register(self):
        self.assertEqual(asked([make(1, 0), weak(1, 1, 0), copy(1, 2, 1), copy(1, 2, 0)]), [1, 2, 2, 1])

    def test_into_the_register_that_it_is_for(self):
        self.assertEqual(asked([make(1, 0), weak(1, 0, 0), copy(1, 0, 0), get(1, 1, 0, 0)]), [1, 2, 2, -3])

    def test_for_a_weak_one_and_for_one_with_last_words(self):
        self.assertEqual(asked([make(1, 0, 0, 2), weak(1, 1, 0), weak(1, 2, 1)]), [1, 2, 3])

    def test_its_field_holds_what_it_is_for(self):
        for target in (0, 1):
            house = House()
            call_make(house, 1, 3, 0, 0)
            call_make(house, 1, 0, 2, 0)
            call_weak(house, 1, target, 0)
            self.assertEqual(house.thing_in(1, target).kind, 1)
            self.assertEqual([house.heap.number_at(place) for place in house.thing_in(1, target).fields], [2])

    def test_it_has_a_value(self):
        self.assertEqual(asked([make(1, 0), weak(1, 1, 0), write(1, 1, 9), read(1, 1), read(1, 0)]), [1, 2, 0, 9, 0])


class GetAndPut(unittest.TestCase):
    def test_what_is_put_is_got(self):
        calls = [make(1, 0, 2), make(1, 1), put(1, 0, 1, 1), get(1, 2, 0, 1), get(1, 3, 0, 0), copy(1, 2, 2)]
        self.assertEqual(asked(calls), [1, 2, 2, 2, 0, 2])

    def test_each_field_by_itself(self):
        calls = [make(1, 0, 6)]
        for i in range(6):
            calls += [make(1, 1), put(1, 0, i, 1)]
        calls += [get(1, 2, 0, i) for i in range(6)]
        self.assertEqual(asked(calls)[-6:], [2, 3, 4, 5, 6, 7])

    def test_nothing_is_put(self):
        calls = [make(1, 0, 1), put(1, 0, 0, 0), put(1, 0, 0, 3), get(1, 0, 0, 0), copy(1, 0, 0)]
        self.assertEqual(asked(calls), [1, 1, 0, 0, 0])

    def test_a_thing_holds_itself(self):
        calls = [make(1, 0, 1), put(1, 0, 0, 0), get(1, 1, 0, 0), get(1, 2, 1, 0), same(1, 0, 2)]
        self.assertEqual(asked(calls), [1, 1, 1, 1, 1])

    def test_get_into_the_register_it_comes_from(self):
        calls = [make(1, 0, 1), make(1, 1), put(1, 0, 0, 1), get(1, 0, 0, 0), copy(1, 0, 0)]
        self.assertEqual(asked(calls), [1, 2, 2, 2, 2])

    def test_a_weak_one_in_a_field(self):
        calls = [make(1, 0, 1), weak(1, 1, 0), put(1, 0, 0, 1), get(1, 2, 0, 0), same(1, 1, 2)]
        self.assertEqual(asked(calls), [1, 2, 2, 2, 1])

    def test_another_thread_comes_to_the_same_field(self):
        calls = [make(1, 0, 1), make(1, 1), save(1, 0, 0), load(2, 3, 0), put(1, 0, 0, 1), get(2, 2, 3, 0)]
        self.assertEqual(asked(calls), [1, 2, 1, 1, 2, 2])

    def test_one_with_last_words_has_fields(self):
        calls = [make(1, 0, 1, 2), put(1, 0, 0, 0), get(1, 1, 0, 0)]
        self.assertEqual(asked(calls), [1, 1, 1])


class CopyAndDrop(unittest.TestCase):
    def test_copy_leaves_the_first_register(self):
        self.assertEqual(asked([make(3, 0), copy(3, 3, 0), copy(3, 0, 0), copy(3, 3, 3)]), [1, 1, 1, 1])

    def test_copy_of_nothing(self):
        self.assertEqual(asked([make(3, 0), copy(3, 0, 1), copy(3, 0, 0)]), [1, 0, 0])

    def test_drop(self):
        self.assertEqual(asked([make(1, 0), copy(1, 1, 0), drop(1, 0), copy(1, 0, 0), copy(1, 1, 1)]), [1, 1, 0, 0, 1])

    def test_drop_where_nothing_is(self):
        self.assertEqual(asked([drop(2, 2)]), [0])

    def test_registers_are_each_thread_s_own(self):
        calls = [make(1, 0), make(2, 0), make(3, 0), drop(2, 0)] + [copy(t, 0, 0) for t in (1, 2, 3)]
        self.assertEqual(asked(calls)[-3:], [1, 0, 3])


class LoadAndSave(unittest.TestCase):
    def test_names_are_shared_by_the_threads(self):
        calls = [make(1, 2), save(1, 3, 2), load(2, 0, 3), load(3, 1, 3), copy(2, 0, 0), copy(3, 1, 1)]
        self.assertEqual(asked(calls), [1, 1, 1, 1, 1, 1])

    def test_each_name_by_itself(self):
        calls = []
        for name in range(4):
            calls += [make(1, 0), save(1, name, 0)]
        calls += [load(1, 0, name) for name in range(4)]
        self.assertEqual(asked(calls)[-4:], [1, 2, 3, 4])

    def test_nothing_is_saved_and_loaded(self):
        calls = [make(1, 0), load(1, 1, 0), save(1, 0, 0), save(1, 0, 1), load(1, 0, 0), copy(1, 0, 0)]
        self.assertEqual(asked(calls), [1, 0, 1, 0, 0, 0])

    def test_saving_is_not_undone_by_dropping(self):
        self.assertEqual(asked([make(1, 0), save(1, 0, 0), drop(1, 0), load(1, 0, 0)]), [1, 1, 0, 1])


class Same(unittest.TestCase):
    def test_the_same_thing(self):
        self.assertEqual(asked([make(1, 0), copy(1, 1, 0), same(1, 0, 1), same(1, 0, 0)])[2:], [1, 1])

    def test_two_things(self):
        self.assertEqual(last([make(1, 0), make(1, 1), same(1, 0, 1)]), 0)

    def test_nothing_in_both(self):
        self.assertEqual(asked([same(1, 0, 1), same(2, 3, 3)]), [1, 1])

    def test_nothing_in_one(self):
        self.assertEqual(asked([make(1, 0), same(1, 0, 1), same(1, 1, 0)]), [1, 0, 0])

    def test_a_weak_one_is_not_what_it_is_for(self):
        self.assertEqual(last([make(1, 0), weak(1, 1, 0), same(1, 0, 1)]), 0)


class WriteAndRead(unittest.TestCase):
    def test_write_answers_the_value_before(self):
        self.assertEqual(asked([make(1, 0), write(1, 0, 5), write(1, 0, 7), read(1, 0), read(1, 0)]), [1, 0, 5, 7, 7])

    def test_the_value_is_the_thing_s_and_not_the_register_s(self):
        calls = [make(1, 0), copy(1, 1, 0), make(1, 2), write(1, 0, 5), read(1, 1), read(1, 2)]
        self.assertEqual(asked(calls), [1, 1, 2, 0, 5, 0])

    def test_the_value_is_no_field(self):
        calls = [make(1, 0, 1), put(1, 0, 0, 0), write(1, 0, 44), get(1, 1, 0, 0), read(1, 1)]
        self.assertEqual(asked(calls), [1, 1, 0, 1, 44])


class Together(unittest.TestCase):
    def test_all_of_them_on_one_house(self):
        calls = [
            make(1, 0, 2, 2), make(1, 1, 0), put(1, 0, 1, 1), write(1, 1, 1000000), weak(1, 2, 1), save(1, 2, 0),
            drop(1, 0), load(2, 3, 2), get(2, 0, 3, 1), read(2, 0), copy(2, 1, 0), same(2, 0, 1), same(2, 0, 3),
            put(2, 3, 1, 2), get(2, 0, 3, 1), read(1, 1), write(1, 1, 0), read(2, 1), copy(1, 3, 2),
        ]
        self.assertEqual(asked(calls), [1, 2, 2, 0, 3, 1, 0, 1, 2, 1000000, 2, 1, 0, 0, 0, 1000000, 1000000, 0, 3])


if __name__ == "__main__":
    unittest.main()
