"""How lists are handed in and answers given back."""

import builtins
import random
import unittest
from unittest import mock

from quietsweep.house import answers
from tests.spelling import (
    SIZES, copy, drop, flat, get, load, make, put, read, same, save, some_call, weak, write,
)

SPELLINGS = (make, weak, get, put, copy, drop, load, save, same, write, read)


class Unchanging(list):
    """A list that can't be changed, not for a while either."""

    def refuse(self, *given, **named):
        raise AssertionError("what is handed in is changed")

    append = clear = extend = insert = pop = remove = reverse = sort = refuse
    __setitem__ = __delitem__ = __iadd__ = __imul__ = refuse


class Interface(unittest.TestCase):
    def test_a_list_of_one_call(self):
        self.assertEqual(answers([0, 1, 0, 0, 0]), [1, 1])
        self.assertEqual(answers([5, 1, 0]), [1, 0])
        self.assertEqual(answers([8, 1, 0, 3]), [1, 1])
        self.assertEqual(answers([10, 1, 0]), [1, -2])
        self.assertEqual(answers([0, 0, 0, 0, 0]), [1, -1])

    def test_a_list_of_two_hundred_calls(self):
        calls = [make(1, 0, 6)] + [write(1, 0, n) for n in range(1, 199)] + [read(1, 0)]
        given = answers(flat(calls))
        self.assertEqual(given, [1, 1] + flat([[1, n] for n in range(198)]) + [1, 198])

    def test_a_list_of_a_thousand_numbers(self):
        calls = [make(1, 0, 6)] + [put(1, 0, 5, 0), get(1, 0, 0, 5)] * 99 + [put(1, 0, 5, 0)]
        self.assertEqual(len(flat(calls)), 1000)
        self.assertEqual(answers(flat(calls)), [1, 1] * 200)

    def test_how_calls_are_spelled(self):
        for number, (spell, size) in enumerate(zip(SPELLINGS, SIZES)):
            given = answers(spell(*[1] * size) * 3)
            self.assertEqual(len(given), 6, number)

    def test_answers_are_a_list_of_whole_numbers(self):
        given = answers(flat([make(1, 0), same(1, 0, 0), same(1, 0, 1), drop(1, 0), read(1, 0), make(9, 0)]))
        self.assertIs(type(given), list)
        self.assertEqual({type(number) for number in given}, {int})
        self.assertEqual(given, [1, 1, 1, 1, 1, 0, 1, 0, 1, -2, 1, -1])

    def test_what_is_handed_in_is_not_changed(self):
        source = random.Random(1)
        for turn in range(20):
            calls = flat([some_call(source) for place in range(60)])
            before = list(calls)
            self.assertEqual(answers(Unchanging(calls)), answers(calls))
            self.assertEqual(calls, before)

    def test_nothing_is_kept(self):
        one = flat([make(1, 0, 1), put(1, 0, 0, 0), save(1, 0, 0), write(1, 0, 3)] + [make(1, 1, 6)] * 17)
        other = flat([load(1, 0, 0), copy(1, 1, 1), read(1, 0), make(1, 0, 6), read(1, 0), get(1, 1, 0, 0)])
        first = answers(one)
        second = answers(other)
        self.assertEqual(second, [1, 0, 1, 0, 1, -2, 1, 1, 1, 0, 1, 0])
        self.assertEqual(answers(one), first)
        self.assertEqual(answers(other), second)

    def test_what_is_given_back_is_the_caller_s(self):
        first = answers(make(1, 0))
        first.append(7)
        self.assertEqual(answers(make(1, 0)), [1, 1])

    def test_it_prints_reads_and_imports_nothing(self):
        calls = flat([make(1, 0, 2), weak(1, 1, 0), get(1, 2, 0, 0), put(1, 0, 1, 1), copy(1, 3, 0), drop(1, 3),
                      save(1, 0, 0), load(2, 0, 0), same(1, 0, 1), write(1, 0, 2), read(1, 0)])
        with mock.patch.object(builtins, "print") as printed, mock.patch.object(builtins, "open") as opened, \
                mock.patch.object(builtins, "input") as asked_for, mock.patch.object(builtins, "__import__") as imported:
            answers(calls)
            happened = [double.called for double in (printed, opened, asked_for, imported)]
        self.assertEqual(happened, [False] * 4)


if __name__ == "__main__":
    unittest.main()
