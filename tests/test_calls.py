"""Each of the calls at ordinary inputs."""

import unittest

from quietsweep.thread_calls import call_make, call_weak
from quietsweep.threads import House
from tests.spelling import (
    HEALS, MARKS, MOVES, RESTS, SWEEPS, asked, copy, drop, finish, get, last, load, look, make, pace, put, read,
    regions, regs, same, save, start, step, things, told, weak, words, work, write,
)


class Make(unittest.TestCase):
    def test_numbers_go_by_birth_from_one(self):
        self.assertEqual(asked([make(1, 0), make(2, 3, 6), make(3, 1, 1, 2), make(1, 0)]), [1, 2, 3, 4])

    def test_it_is_in_the_register(self):
        self.assertEqual(asked([make(2, 1), copy(2, 1, 1), copy(2, 0, 0), copy(1, 1, 1)]), [1, 1, 0, 0])

    def test_fields_and_value_are_zero(self):
        calls = [make(1, 0, 6)] + [get(1, 1, 0, i) for i in range(6)] + [read(1, 0)]
        self.assertEqual(asked(calls), [1, 0, 0, 0, 0, 0, 0, 0])

    def test_a_refused_one_uses_no_number(self):
        self.assertEqual(asked([make(1, 0), make(1, 0, 7), make(1, 0, 0, 1), make(1, 0)]), [1, -1, -1, 2])


class Weak(unittest.TestCase):
    def test_it_is_made_and_in_the_register(self):
        self.assertEqual(asked([make(1, 0), weak(1, 1, 0), copy(1, 2, 1), copy(1, 2, 0)]), [1, 2, 2, 1])

    def test_into_the_register_that_it_is_for(self):
        self.assertEqual(asked([make(1, 0), weak(1, 0, 0), copy(1, 0, 0), get(1, 1, 0, 0)]), [1, 2, 2, -3])

    def test_for_a_weak_one_and_for_one_with_last_words(self):
        self.assertEqual(asked([make(1, 0, 0, 2), weak(1, 1, 0), weak(1, 2, 1)]), [1, 2, 3])

    def test_its_field_holds_what_it_is_for(self):
        for target in (0, 1):
            house = House()
            call_make(house, 1, 3, 0, 0)
            call_make(house, 1, 0, 2, 0)
            call_weak(house, 1, target, 0)
            self.assertEqual(house.thing_in(1, target).kind, 1)
            self.assertEqual([house.heap.number_at(place) for place in house.thing_in(1, target).fields], [2])

    def test_it_has_a_value(self):
        self.assertEqual(asked([make(1, 0), weak(1, 1, 0), write(1, 1, 9), read(1, 1), read(1, 0)]), [1, 2, 0, 9, 0])


class GetAndPut(unittest.TestCase):
    def test_what_is_put_is_got(self):
        calls = [make(1, 0, 2), make(1, 1), put(1, 0, 1, 1), get(1, 2, 0, 1), get(1, 3, 0, 0), copy(1, 2, 2)]
        self.assertEqual(asked(calls), [1, 2, 2, 2, 0, 2])

    def test_each_field_by_itself(self):
        calls = [make(1, 0, 6)]
        for i in range(6):
            calls += [make(1, 1), put(1, 0, i, 1)]
        calls += [get(1, 2, 0, i) for i in range(6)]
        self.assertEqual(asked(calls)[-6:], [2, 3, 4, 5, 6, 7])

    def test_nothing_is_put(self):
        calls = [make(1, 0, 1), put(1, 0, 0, 0), put(1, 0, 0, 3), get(1, 0, 0, 0), copy(1, 0, 0)]
        self.assertEqual(asked(calls), [1, 1, 0, 0, 0])

    def test_a_thing_holds_itself(self):
        calls = [make(1, 0, 1), put(1, 0, 0, 0), get(1, 1, 0, 0), get(1, 2, 1, 0), same(1, 0, 2)]
        self.assertEqual(asked(calls), [1, 1, 1, 1, 1])

    def test_get_into_the_register_it_comes_from(self):
        calls = [make(1, 0, 1), make(1, 1), put(1, 0, 0, 1), get(1, 0, 0, 0), copy(1, 0, 0)]
        self.assertEqual(asked(calls), [1, 2, 2, 2, 2])

    def test_a_weak_one_in_a_field(self):
        calls = [make(1, 0, 1), weak(1, 1, 0), put(1, 0, 0, 1), get(1, 2, 0, 0), same(1, 1, 2)]
        self.assertEqual(asked(calls), [1, 2, 2, 2, 1])

    def test_another_thread_comes_to_the_same_field(self):
        calls = [make(1, 0, 1), make(1, 1), save(1, 0, 0), load(2, 3, 0), put(1, 0, 0, 1), get(2, 2, 3, 0)]
        self.assertEqual(asked(calls), [1, 2, 1, 1, 2, 2])

    def test_one_with_last_words_has_fields(self):
        calls = [make(1, 0, 1, 2), put(1, 0, 0, 0), get(1, 1, 0, 0)]
        self.assertEqual(asked(calls), [1, 1, 1])


class CopyAndDrop(unittest.TestCase):
    def test_copy_leaves_the_first_register(self):
        self.assertEqual(asked([make(3, 0), copy(3, 3, 0), copy(3, 0, 0), copy(3, 3, 3)]), [1, 1, 1, 1])

    def test_copy_of_nothing(self):
        self.assertEqual(asked([make(3, 0), copy(3, 0, 1), copy(3, 0, 0)]), [1, 0, 0])

    def test_drop(self):
        self.assertEqual(asked([make(1, 0), copy(1, 1, 0), drop(1, 0), copy(1, 0, 0), copy(1, 1, 1)]), [1, 1, 0, 0, 1])

    def test_drop_where_nothing_is(self):
        self.assertEqual(asked([drop(2, 2)]), [0])

    def test_registers_are_each_thread_s_own(self):
        calls = [make(1, 0), make(2, 0), make(3, 0), drop(2, 0)] + [copy(t, 0, 0) for t in (1, 2, 3)]
        self.assertEqual(asked(calls)[-3:], [1, 0, 3])


class LoadAndSave(unittest.TestCase):
    def test_names_are_shared_by_the_threads(self):
        calls = [make(1, 2), save(1, 3, 2), load(2, 0, 3), load(3, 1, 3), copy(2, 0, 0), copy(3, 1, 1)]
        self.assertEqual(asked(calls), [1, 1, 1, 1, 1, 1])

    def test_each_name_by_itself(self):
        calls = []
        for name in range(4):
            calls += [make(1, 0), save(1, name, 0)]
        calls += [load(1, 0, name) for name in range(4)]
        self.assertEqual(asked(calls)[-4:], [1, 2, 3, 4])

    def test_nothing_is_saved_and_loaded(self):
        calls = [make(1, 0), load(1, 1, 0), save(1, 0, 0), save(1, 0, 1), load(1, 0, 0), copy(1, 0, 0)]
        self.assertEqual(asked(calls), [1, 0, 1, 0, 0, 0])

    def test_saving_is_not_undone_by_dropping(self):
        self.assertEqual(asked([make(1, 0), save(1, 0, 0), drop(1, 0), load(1, 0, 0)]), [1, 1, 0, 1])


class Same(unittest.TestCase):
    def test_the_same_thing(self):
        self.assertEqual(asked([make(1, 0), copy(1, 1, 0), same(1, 0, 1), same(1, 0, 0)])[2:], [1, 1])

    def test_two_things(self):
        self.assertEqual(last([make(1, 0), make(1, 1), same(1, 0, 1)]), 0)

    def test_nothing_in_both(self):
        self.assertEqual(asked([same(1, 0, 1), same(2, 3, 3)]), [1, 1])

    def test_nothing_in_one(self):
        self.assertEqual(asked([make(1, 0), same(1, 0, 1), same(1, 1, 0)]), [1, 0, 0])

    def test_a_weak_one_is_not_what_it_is_for(self):
        self.assertEqual(last([make(1, 0), weak(1, 1, 0), same(1, 0, 1)]), 0)


class WriteAndRead(unittest.TestCase):
    def test_write_answers_the_value_before(self):
        self.assertEqual(asked([make(1, 0), write(1, 0, 5), write(1, 0, 7), read(1, 0), read(1, 0)]), [1, 0, 5, 7, 7])

    def test_the_value_is_the_thing_s_and_not_the_register_s(self):
        calls = [make(1, 0), copy(1, 1, 0), make(1, 2), write(1, 0, 5), read(1, 1), read(1, 2)]
        self.assertEqual(asked(calls), [1, 1, 2, 0, 5, 0])

    def test_the_value_is_no_field(self):
        calls = [make(1, 0, 1), put(1, 0, 0, 0), write(1, 0, 44), get(1, 1, 0, 0), read(1, 1)]
        self.assertEqual(asked(calls), [1, 1, 0, 1, 44])


class Look(unittest.TestCase):
    def test_what_a_weak_one_refers_to_is_in_the_register(self):
        calls = [make(1, 0), weak(1, 1, 0), drop(1, 0), look(1, 2, 1), copy(1, 2, 2), copy(1, 1, 1), copy(1, 0, 0)]
        self.assertEqual(asked(calls), [1, 2, 0, 1, 1, 2, 0])

    def test_into_the_register_of_the_weak_one(self):
        self.assertEqual(asked([make(1, 0), weak(1, 1, 0), look(1, 1, 1), same(1, 0, 1)]), [1, 2, 1, 1])

    def test_a_weak_one_that_has_let_go(self):
        calls = [make(1, 0), weak(1, 1, 0), make(1, 2), drop(1, 0), start(), finish(), look(1, 2, 1), copy(1, 2, 2)]
        self.assertEqual(asked(calls), [1, 2, 3, 0, 2, 1, 0, 0])

    def test_a_weak_one_that_has_let_go_does_so_for_good(self):
        calls = [make(1, 0), weak(1, 1, 0), drop(1, 0), start(), finish()] + [make(2, r) for r in range(4)]
        self.assertEqual(asked(calls + [look(1, 2, 1), start(), finish(), look(1, 2, 1)])[-4:], [0, 5, 2, 0])

    def test_a_weak_one_for_a_weak_one(self):
        calls = [make(1, 0), weak(1, 1, 0), weak(1, 2, 1), look(1, 3, 2), look(1, 3, 3)]
        self.assertEqual(asked(calls), [1, 2, 3, 2, 1])

    def test_what_was_looked_at_is_held(self):
        calls = [make(1, 0), weak(1, 1, 0), drop(1, 0), look(1, 2, 1), start(), finish(), look(1, 3, 1)]
        self.assertEqual(last(calls), 1)


class Words(unittest.TestCase):
    GONE = [make(1, 0, 0, 2), make(1, 1, 0, 2), make(1, 2), drop(1, 0), drop(1, 1), start(), finish()]

    def test_none_waits(self):
        self.assertEqual(asked([words(1, 0), make(2, 3, 0, 2), words(2, 2)]), [0, 1, 0])

    def test_where_none_waits_nothing_is_in_the_register(self):
        self.assertEqual(asked([make(1, 0), words(1, 0), copy(1, 0, 0)]), [1, 0, 0])

    def test_they_are_told_once_and_in_order(self):
        calls = self.GONE + [words(3, 0), words(3, 1), words(3, 2), copy(3, 0, 0), copy(3, 1, 1), copy(3, 2, 2)]
        self.assertEqual(asked(calls)[len(self.GONE):], [1, 2, 0, 1, 2, 0])

    def test_they_are_not_told_again_when_it_is_gone_again(self):
        calls = self.GONE + [words(3, 0), words(3, 0), drop(3, 0), start(), finish(), words(3, 0)]
        self.assertEqual(asked(calls)[len(self.GONE):], [1, 2, 0, 1, 2, 0])
        self.assertEqual([part[0] for part in told(calls + [things()])][-1], 1)

    def test_a_thing_with_last_words_is_as_it_was(self):
        calls = [make(1, 0, 1, 2), make(1, 1), put(1, 0, 0, 1), write(1, 0, 77), write(1, 1, 78), drop(1, 0),
                 drop(1, 1), start(), finish(), words(2, 0), read(2, 0), get(2, 1, 0, 0), read(2, 1)]
        self.assertEqual(asked(calls)[-4:], [1, 77, 2, 78])


class StartStepFinish(unittest.TestCase):
    def test_start_answers_how_many_wait_to_be_looked_at(self):
        self.assertEqual(asked([start()]), [0])
        self.assertEqual(last([make(1, 0), make(2, 1), make(3, 2), save(3, 0, 2), copy(1, 1, 0), start()]), 3)

    def test_a_round_of_an_empty_house(self):
        states = asked([start()] + [step(1)] * 12)
        self.assertEqual(states, [0] + [SWEEPS] * 9 + [RESTS] * 3)

    def test_step_answers_what_it_does(self):
        calls = [make(1, 0, 6), make(1, 1, 6), make(1, 2, 6), drop(1, 1), start()]
        states = asked(calls + [step(1)] * 18)[len(calls):]
        # Two are looked at, then marking ends; eight regions; one thing moves; two heal.
        self.assertEqual(states, [MARKS] * 2 + [SWEEPS] * 9 + [MOVES] * 2 + [HEALS] * 3 + [RESTS] * 2)

    def test_many_steps_are_as_one_by_one(self):
        calls = [make(1, 0, 6), make(1, 1, 6), make(1, 2, 6), drop(1, 1), start()]
        states = asked(calls + [step(1)] * 18)[len(calls):]
        for n in range(1, 19):
            self.assertEqual(last(calls + [step(n)]), states[n - 1])

    def test_no_steps(self):
        self.assertEqual(asked([step(0), start(), step(0), step(1), step(0)]), [0, 0, MARKS, SWEEPS, SWEEPS])

    def test_steps_while_it_rests_do_nothing(self):
        calls = [make(1, 0), drop(1, 0), step(200), things(), work()]
        self.assertEqual(told(calls)[2:], [[0], [1, 1, 16, 0, 0, 1, 0], [0, 0, 0, 0, 0, 1, 7, 0, 0, 0]])

    def test_more_steps_than_a_round_has(self):
        self.assertEqual(told([start(), step(200), work()])[1:], [[RESTS], [0, 0, 0, 0, 0, 0, 7, 2, 16, 1]])

    def test_finish_answers_how_many_rounds_are_done(self):
        self.assertEqual(asked([finish(), start(), finish(), finish(), start(), step(3), finish(), start(), step(200),
                                finish()]), [0, 0, 1, 1, 0, SWEEPS, 2, 0, RESTS, 3])

    def test_finish_from_each_state(self):
        calls = [make(1, 0, 6), make(1, 1, 6), make(1, 2, 6), drop(1, 1), start()]
        whole = told(calls + [finish(), things(), regions(), work(), regs(1)])[-5:]
        self.assertEqual(whole[0], [1])
        for n in range(1, 18):
            self.assertEqual(told(calls + [step(n), finish(), things(), regions(), work(), regs(1)])[-5:], whole)


class Pace(unittest.TestCase):
    def test_it_answers_zero(self):
        self.assertEqual(asked([pace(0, 0), pace(1, 3), pace(20, 8)]), [0, 0, 0])

    def test_it_sets_nothing_going_by_itself(self):
        self.assertEqual(told([pace(20, 8), work()])[1], [0, 0, 0, 0, 0, 0, 7, 0, 0, 0])


class Regs(unittest.TestCase):
    def test_of_a_new_house(self):
        self.assertEqual(told([regs(1), regs(2), regs(3)]), [[0] * 8] * 3)

    def test_registers_of_the_thread_then_names(self):
        calls = [make(1, 0), make(1, 3), make(2, 1), make(3, 2), save(1, 0, 3), save(2, 2, 1), save(3, 3, 2)]
        self.assertEqual(told(calls + [regs(1), regs(2), regs(3)])[-3:], [
            [1, 0, 0, 2, 2, 0, 3, 4], [0, 3, 0, 0, 2, 0, 3, 4], [0, 0, 4, 0, 2, 0, 3, 4],
        ])

    def test_it_changes_nothing(self):
        self.assertEqual(told([make(1, 0), regs(1), regs(1)])[1:], [[1, 0, 0, 0, 0, 0, 0, 0]] * 2)


class Things(unittest.TestCase):
    def test_of_a_new_house(self):
        self.assertEqual(told([things()]), [[0]])

    def test_each_by_its_place(self):
        calls = [make(1, 0, 2), make(1, 1, 0, 2), weak(1, 2, 0), make(2, 0, 6), make(2, 1, 3), write(1, 1, 9),
                 write(1, 2, 8), put(1, 0, 1, 1), put(2, 1, 0, 1), put(2, 1, 2, 0), things()]
        self.assertEqual(told(calls)[-1], [
            5,
            1, 16, 0, 0, 1, 2, 0, 2,
            2, 20, 2, 9, 1, 0,
            3, 22, 1, 8, 1, 1, 1,
            4, 32, 0, 0, 1, 6, 0, 0, 0, 0, 0, 0,
            5, 40, 0, 0, 1, 3, 5, 0, 4,
        ])

    def test_those_that_were_dropped_are_there_till_they_are_swept(self):
        calls = [make(1, 0), drop(1, 0), things(), start(), things(), finish(), things()]
        self.assertEqual(told(calls)[2::2], [[1, 1, 16, 0, 0, 1, 0], [1, 1, 16, 0, 0, 0, 0], [0]])


class Regions(unittest.TestCase):
    def test_of_a_new_house(self):
        self.assertEqual(told([regions()]), [[1] + [0] * 16])

    def test_given_out_and_taken(self):
        calls = [make(1, 0, 2), make(1, 1, 0), weak(1, 2, 0), make(1, 3, 6), regions(), drop(1, 1), start(), finish(),
                 regions()]
        parts = told(calls)
        self.assertEqual(parts[4], [2, 9, 9, 8, 8] + [0] * 12)
        self.assertEqual(parts[8], [2, 0, 0, 15, 15] + [0] * 12)

    def test_all_regions(self):
        calls = [make(1, 0, 6), make(1, 0, 5)] * 8 + [regions()]
        self.assertEqual(told(calls)[-1], [8] + [15, 15] * 8)


class Work(unittest.TestCase):
    def test_of_a_new_house(self):
        self.assertEqual(told([work()]), [[0, 0, 0, 0, 0, 0, 7, 0, 0, 0]])

    def test_made_and_free(self):
        self.assertEqual(told([make(1, 0, 6)] * 5 + [make(1, 0, 7), work()])[-1], [0, 0, 0, 0, 0, 5, 5, 0, 0, 0])

    def test_last_words_that_wait(self):
        calls = [make(1, 0, 0, 2), make(1, 1, 0, 2), make(1, 0, 0, 2), drop(1, 0), drop(1, 1), start(), step(1), work()]
        self.assertEqual(told(calls)[-1], [1, 3, 0, 0, 3, 1, 2, 3, 3, 7, 1, 16, 0])

    def test_regions_that_are_to_be_emptied(self):
        calls = [make(1, 0, 6), make(1, 1, 6), make(1, 2, 6), make(2, 0, 6), make(1, 3, 6), drop(1, 1), drop(2, 0),
                 start(), step(13), work()]
        # Of three regions each keeps eight words; the third is the current one.
        self.assertEqual(told(calls)[-1], [3, 0, 2, 2, 1, 2, 0, 5, 5, 2, 16, 0])


class Together(unittest.TestCase):
    def test_all_of_them_on_one_house(self):
        calls = [
            make(1, 0, 2, 2), make(1, 1, 0), put(1, 0, 1, 1), write(1, 1, 1000000), weak(1, 2, 1), save(1, 2, 0),
            drop(1, 0), load(2, 3, 2), get(2, 0, 3, 1), read(2, 0), copy(2, 1, 0), same(2, 0, 1), same(2, 0, 3),
            put(2, 3, 1, 2), get(2, 0, 3, 1), read(1, 1), write(1, 1, 0), read(2, 1), copy(1, 3, 2),
        ]
        self.assertEqual(asked(calls), [1, 2, 2, 0, 3, 1, 0, 1, 2, 1000000, 2, 1, 0, 0, 0, 1000000, 1000000, 0, 3])

    def test_all_twenty_one_on_one_house(self):
        calls = [
            make(1, 0, 6), make(1, 1, 6, 2), make(1, 2, 6), weak(1, 3, 1), put(1, 0, 0, 3), save(1, 0, 0), drop(1, 1),
            drop(1, 0), pace(0, 0), start(), step(4), work(), words(2, 0), write(2, 0, 5), look(2, 1, 0), look(1, 1, 3),
            same(1, 1, 3), load(2, 1, 0), get(2, 2, 1, 0), look(2, 3, 2), same(2, 3, 0), read(2, 3), copy(2, 0, 1),
            finish(), regs(2), things(), regions(), work(),
        ]
        self.assertEqual(told(calls), [
            [1], [2], [3], [4], [4], [1], [0],
            [0], [0], [3], [MARKS], [1, 1, 0, 0, 1, 2, 4, 6, 1, 16, 0], [2], [0], [-3], [2],
            [0], [1], [4], [2], [1], [5], [1],
            [1], [1, 1, 4, 2, 1, 0, 0, 0],
            [4, 1, 16, 0, 0, 1, 6, 4, 0, 0, 0, 0, 0, 2, 24, 0, 5, 1, 6, 0, 0, 0, 0, 0, 0,
             3, 32, 0, 0, 1, 6, 0, 0, 0, 0, 0, 0, 4, 40, 1, 0, 1, 1, 2],
            [2, 16, 16, 11, 11] + [0] * 12, [0, 0, 0, 0, 0, 4, 6, 2, 16, 1],
        ])


if __name__ == "__main__":
    unittest.main()
