"""Long lists: two hundred calls, with many rounds; a whole house filled, dropped, collected and filled again."""

import unittest

from quietsweep.house import answers
from tests.spelling import (
    MARKS, RESTS, SWEEPS, asked, copy, drop, finish, flat, get, load, look, make, pace, put, read, save, shown, split,
    start, step, things, told, view, weak, words, work, work_told, write,
)
from tests.test_model import Model

FILL = [make(1, 0, 6)] * 16


def as_the_model(calls):
    return Model().told(calls)


class Filled(unittest.TestCase):
    def test_filled_dropped_collected_and_filled_again(self):
        calls = []
        for turn in range(9):
            calls += FILL + [make(1, 1, 0), drop(1, 0), start(), finish()]
        self.assertEqual(len(calls), 180)
        expected = []
        for turn in range(9):
            expected += list(range(16 * turn + 1, 16 * turn + 17)) + [-8, 0, 0, turn + 1]
        self.assertEqual(asked(calls), expected)
        found, (current, regions), told_now = shown(calls)
        self.assertEqual((found, set(regions.values())), ([], {(0, 0)}))
        self.assertEqual((told_now["made"], told_now["free"], told_now["pauses"]), (144, 7, 18))

    def test_the_current_region_stays_and_the_lowest_free_one_follows(self):
        calls = FILL + [drop(1, 0), start(), finish(), make(1, 0, 6), make(1, 1, 6), make(1, 2, 6)]
        self.assertEqual([thing[:2] for thing in shown(calls)[0]], [(19, 16), (17, 128), (18, 136)])

    def test_filled_with_the_smallest_and_held_by_nobody(self):
        calls = [make(1, 0, 0)] * 64 + [make(1, 0, 0), drop(1, 0), start(), finish()] + [make(1, 0, 0)] * 64
        told_now = asked(calls)
        self.assertEqual(told_now[63:67], [64, -8, 0, 0])
        self.assertEqual(told_now[68:], list(range(65, 129)))

    def test_all_have_last_words(self):
        calls = [make(1, 0, 6, 2)] * 16 + [drop(1, 0), start(), finish(), make(1, 0, 0)] + [words(1, 0)] * 17
        calls += [start(), finish()] + FILL
        told_now = asked(calls)
        self.assertEqual(told_now[16:20], [0, 0, 1, -8])
        self.assertEqual(told_now[20:37], list(range(1, 17)) + [0])
        self.assertEqual(told_now[37:39], [0, 2])
        self.assertEqual(told_now[39:], list(range(17, 33)))

    def test_a_chain_through_the_whole_house(self):
        calls = [make(1, 0, 1)]
        for n in range(39):
            calls += [make(1, 1, 1), put(1, 1, 0, 0), copy(1, 0, 1)]
        calls += [drop(1, 1), start(), step(39), work(), step(2), work(), finish()] + [get(1, 0, 0, 0)] * 39
        parts = told(calls)
        self.assertEqual([part[0] for part in parts[-39:]], list(range(39, 0, -1)))
        # Each of forty is looked at, one by one.
        self.assertEqual((parts[121][:2], parts[123][:3]), ([MARKS, 1], [SWEEPS, 0, 8]))
        self.assertEqual(told(calls[:118] + [make(2, 0, 0)])[-2:], [[40], [-8]])


class ManyRounds(unittest.TestCase):
    def test_two_hundred_calls_with_a_round_behind_each_other_one(self):
        calls = [make(1, 0, 3), save(1, 0, 0)] + [start(), finish()] * 99
        given = answers(flat(calls))
        self.assertEqual(given[4:], flat([[1, 1, 1, n] for n in range(1, 100)]))

    def test_nine_hundred_and_ninety_eight_numbers_with_a_pace(self):
        calls = [pace(20, 8)]
        for n in range(66):
            calls += [make(1, n % 2, 6), put(1, n % 2, 1, 1 - n % 2), get(1, 2, n % 2, 1)]
        calls += [make(2, 0, 6)]
        self.assertEqual((len(calls), len(flat(calls))), (200, 998))
        parts = split(answers(flat(calls)))
        self.assertEqual(parts[:7], [[0], [1], [0], [0], [2], [1], [1]])
        self.assertEqual(parts, as_the_model(calls))
        # What each held goes on holding what that held: no one is ever gone, till there is no room.
        self.assertIn([-8], parts)

    def test_nine_hundred_and_ninety_eight_numbers_with_a_pace_and_room(self):
        calls = [pace(3, 4)]
        for n in range(66):
            calls += [make(1, 0, 6), put(1, 0, 1, 1), put(1, 1, n % 6, 0) if n % 5 else make(1, 1, 6)]
        calls += [make(2, 0, 6)]
        self.assertEqual((len(calls), len(flat(calls))), (200, 998))
        parts = split(answers(flat(calls)))
        self.assertEqual(parts, as_the_model(calls))
        self.assertNotIn([-8], parts)
        self.assertGreater(shown(calls)[2]["rounds"], 5)

    def test_a_thousand_numbers(self):
        calls = [make(1, 0, 6)] + [put(1, 0, n % 6, n % 3) for n in range(99)] + [make(1, n % 3, 6) for n in range(100)]
        self.assertEqual((len(calls), len(flat(calls))), (200, 1000))
        self.assertEqual(split(answers(flat(calls))), as_the_model(calls))

    def test_a_thing_that_moves_round_by_round(self):
        # 1 is left in a sparse region by each of the rounds.
        calls = [make(1, 0, 1), write(1, 0, 5), save(1, 3, 0), weak(1, 1, 0), put(1, 0, 0, 1)]
        for turn in range(8):
            calls += [make(1, 0, 6), make(2, 0, 6), make(2, 1, 6), drop(2, 0), start(), finish()]
            calls += [drop(2, 1), start(), finish()]
        calls += [load(3, 0, 3), read(3, 0), get(3, 1, 0, 0), look(3, 2, 1), make(1, 0, 0), start(), finish(), things()]
        parts = told(calls)
        self.assertEqual(parts, as_the_model(calls))
        self.assertEqual(parts[-8:-4], [[1], [5], [2], [1]])

    def test_asking_all_the_time(self):
        calls = [make(1, 0, 6), weak(1, 1, 0), make(1, 2, 6), make(1, 3, 6), drop(1, 2), drop(1, 0), start()]
        for turn in range(25):
            calls += [step()] + view()
        parts = told(calls)
        self.assertEqual(parts, as_the_model(calls))
        self.assertEqual((parts[-7], work_told(parts[-1])["rounds"]), ([RESTS], 1))

    def test_the_most_steps(self):
        calls = [make(1, 0, 6), start()] + [step(200), start()] * 99
        self.assertEqual(asked(calls), [1, 1] + [0, 1] * 99)


if __name__ == "__main__":
    unittest.main()
