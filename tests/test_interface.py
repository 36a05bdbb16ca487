"""How lists are handed in and answers given back."""

import builtins
import random
import unittest
from unittest import mock

from quietsweep.house import answers
from tests.spelling import (
    NAMES, SIZES, copy, drop, finish, flat, get, load, look, make, pace, put, read, regions, regs, same, save,
    some_list, split, start, step, things, told, view, weak, words, work, write,
)

SPELLINGS = (
    make, weak, get, put, copy, drop, load, save, same, write, read, look, words, start, step, finish, pace, regs,
    things, regions, work,
)


class Unchanging(list):
    """A list that can't be changed, not for a while either."""

    def refuse(self, *given, **named):
        raise AssertionError("what is handed in is changed")

    append = clear = extend = insert = pop = remove = reverse = sort = refuse
    __setitem__ = __delitem__ = __iadd__ = __imul__ = refuse


class Interface(unittest.TestCase):
    def test_a_list_of_one_call(self):
        self.assertEqual(answers([0, 1, 0, 0, 0]), [1, 1])
        self.assertEqual(answers([5, 1, 0]), [1, 0])
        self.assertEqual(answers([8, 1, 0, 3]), [1, 1])
        self.assertEqual(answers([10, 1, 0]), [1, -2])
        self.assertEqual(answers([0, 0, 0, 0, 0]), [1, -1])

    def test_a_list_of_two_hundred_calls(self):
        calls = [make(1, 0, 6)] + [write(1, 0, n) for n in range(1, 199)] + [read(1, 0)]
        given = answers(flat(calls))
        self.assertEqual(given, [1, 1] + flat([[1, n] for n in range(198)]) + [1, 198])

    def test_a_list_of_a_thousand_numbers(self):
        calls = [make(1, 0, 6)] + [put(1, 0, 5, 0), get(1, 0, 0, 5)] * 99 + [put(1, 0, 5, 0)]
        self.assertEqual(len(flat(calls)), 1000)
        self.assertEqual(answers(flat(calls)), [1, 1] * 200)

    def test_how_calls_are_spelled(self):
        self.assertEqual((len(SPELLINGS), len(SIZES), len(NAMES)), (21, 21, 21))
        several = {"regs": 8, "things": 1, "regions": 17, "work": 10}
        for number, (spell, size) in enumerate(zip(SPELLINGS, SIZES)):
            call = spell(*[1] * size)
            self.assertEqual((call[0], len(call)), (number, size + 1))
            self.assertEqual(len(told([call] * 3)), 3)
            self.assertEqual(len(told([call])[0]), several.get(NAMES[number], 1), number)

    def test_how_many_numbers_stand_ahead_of_each_answer(self):
        self.assertEqual(answers([13, 20, 15, 17, 1, 18, 19]), [
            1, 0, 10, 1, 0, 0, 0, 0, 0, 7, 1, 16, 0, 1, 1, 8, 0, 0, 0, 0, 0, 0, 0, 0, 1, 0, 17, 1] + [0] * 16)
        self.assertEqual(answers([17, 0, 17, 4, 13, 13]), [1, -1, 1, -1, 1, 0, 1, -8])

    def test_how_many_numbers_the_answers_of_each_call_have(self):
        source = random.Random(3)
        for turn in range(200):
            calls = some_list(source)
            for call, part in zip(calls, told(calls)):
                self.right_size(NAMES[call[0]], part)

    def right_size(self, name, part):
        if part[0] < 0:
            self.assertEqual(len(part), 1)
            self.assertIn(part[0], (-1, -2, -3, -8))
            return
        self.assertEqual([number for number in part if number < 0], [])
        if name == "things":
            at = 1
            for turn in range(part[0]):
                at += 6 + part[at + 5]
            self.assertEqual(len(part), at)
        elif name == "work":
            behind = 4 + part[3]
            self.assertEqual(len(part), behind + 1 + part[behind] + 5)
        else:
            self.assertEqual(len(part), {"regs": 8, "regions": 17}.get(name, 1))

    def test_answers_are_a_list_of_whole_numbers(self):
        given = answers(flat([make(1, 0), same(1, 0, 0), same(1, 0, 1), drop(1, 0), read(1, 0), make(9, 0)]))
        self.assertIs(type(given), list)
        self.assertEqual({type(number) for number in given}, {int})
        self.assertEqual(given, [1, 1, 1, 1, 1, 0, 1, 0, 1, -2, 1, -1])
        given = answers(flat([make(1, 0, 1), start(), step(1), finish()] + view()))
        self.assertEqual({type(number) for number in given}, {int})

    def test_what_is_handed_in_is_not_changed(self):
        source = random.Random(1)
        for turn in range(100):
            calls = flat(some_list(source))
            before = list(calls)
            self.assertEqual(answers(Unchanging(calls)), answers(calls))
            self.assertEqual(calls, before)

    def test_two_times_the_same_list_gives_the_same_answers(self):
        source = random.Random(2)
        lists = [flat(some_list(source)) for turn in range(100)]
        first = [answers(calls) for calls in lists]
        self.assertEqual([answers(calls) for calls in reversed(lists)], first[::-1])

    def test_nothing_is_kept(self):
        one = flat([make(1, 0, 1), put(1, 0, 0, 0), save(1, 0, 0), write(1, 0, 3)] + [make(1, 1, 6)] * 17)
        other = flat([load(1, 0, 0), copy(1, 1, 1), read(1, 0), make(1, 0, 6), read(1, 0), get(1, 1, 0, 0)])
        first = answers(one)
        second = answers(other)
        self.assertEqual(second, [1, 0, 1, 0, 1, -2, 1, 1, 1, 0, 1, 0])
        self.assertEqual(answers(one), first)
        self.assertEqual(answers(other), second)

    def test_no_round_no_pace_and_no_last_words_are_kept(self):
        one = flat([pace(20, 8), make(1, 0, 6, 2), drop(1, 0), make(1, 1, 6), start(), step(3)])
        fresh = answers(flat(view() + [make(1, 0), words(1, 1), work()]))
        answers(one)
        self.assertEqual(answers(flat(view() + [make(1, 0), words(1, 1), work()])), fresh)
        self.assertEqual(split(fresh)[5], [0, 0, 0, 0, 0, 0, 7, 0, 0, 0])

    def test_what_is_given_back_is_the_caller_s(self):
        first = answers(make(1, 0))
        first.append(7)
        self.assertEqual(answers(make(1, 0)), [1, 1])

    def test_it_prints_reads_and_imports_nothing(self):
        calls = flat([make(1, 0, 2), weak(1, 1, 0), get(1, 2, 0, 0), put(1, 0, 1, 1), copy(1, 3, 0), drop(1, 3),
                      save(1, 0, 0), load(2, 0, 0), same(1, 0, 1), write(1, 0, 2), read(1, 0), look(1, 2, 1),
                      words(1, 3), pace(1, 8), make(2, 0, 6, 2), drop(2, 0), start(), step(5), finish()] + view())
        with mock.patch.object(builtins, "print") as printed, mock.patch.object(builtins, "open") as opened, \
                mock.patch.object(builtins, "input") as asked_for, mock.patch.object(builtins, "__import__") as imported:
            answers(calls)
            happened = [double.called for double in (printed, opened, asked_for, imported)]
        self.assertEqual(happened, [False] * 4)


if __name__ == "__main__":
    unittest.main()
