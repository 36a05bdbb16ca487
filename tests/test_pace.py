"""Allocating pays: when it begins a round, and how many steps it does."""

import unittest

from tests.spelling import (
    HEALS, MARKS, MOVES, RESTS, SWEEPS, asked, copy, drop, finish, last, look, make, pace, put, save, shown, start,
    step, told, view, weak, words,
)


def work(calls):
    return shown(calls)[2]


def seen(calls):
    """All that can be asked behind the calls."""
    return told(calls + view())[len(calls):]


class Begins(unittest.TestCase):
    def test_at_first_nothing_is_paid(self):
        self.assertEqual(work([make(1, 0, 6)] * 17)["pauses"], 0)

    def test_a_pay_of_zero_begins_nothing(self):
        for low in (0, 7, 8):
            self.assertEqual(work([pace(0, low)] + [make(1, 0, 6)] * 17)["pauses"], 0)

    def test_it_begins_and_does_its_steps(self):
        told_now = work([pace(1, 8), make(1, 0, 0)])
        # Of an empty house: the end of marking, and the first region.
        self.assertEqual((told_now["doing"], told_now["todo"], told_now["pauses"]), (SWEEPS, 7, 2))
        told_now = work([make(1, 0, 0), make(1, 1, 0), make(1, 2, 0), pace(1, 8), make(1, 3, 0)])
        self.assertEqual((told_now["doing"], told_now["grey"], told_now["pauses"]), (MARKS, 1, 1))

    def test_as_many_free_regions_as_told_or_fewer(self):
        # With n regions given out 8 - n are free; things of eight words go two to a region.
        for low in range(9):
            calls = [make(1, 0, 6)] * 16
            for made in range(16):
                free = min(7, 8 - (made + 1) // 2)
                self.assertEqual(work(calls[:made])["free"], free)
                began = work(calls[:made] + [pace(1, low), make(1, 1, 0)])["pauses"] > 0
                self.assertEqual(began, free <= low, (low, made))

    def test_it_is_asked_ahead_of_finding_room(self):
        # One region is free: 0 are told, and the thing takes the last one; the next call begins it.
        calls = [make(1, 0, 6)] * 14 + [pace(1, 0), make(1, 0, 6)]
        self.assertEqual((work(calls)["free"], work(calls)["pauses"]), (0, 0))
        self.assertEqual(work(calls + [make(1, 0, 6)])["pauses"], 2)

    def test_the_made_thing_is_made_behind_the_steps(self):
        calls = [make(1, 0, 6), pace(20, 8), make(1, 0, 6)]
        # 1 was in the register while it was paid for, so it was kept; the next round takes it.
        self.assertEqual([thing[0] for thing in shown(calls)[0]], [1, 2])
        self.assertEqual([thing[0] for thing in shown(calls + [make(1, 1, 0)])[0]], [2, 3])

    def test_a_refused_pace_changes_nothing(self):
        self.assertEqual(asked([pace(1, 8), pace(21, 0), pace(0, 9), make(1, 0, 0)]), [0, -1, -1, 1])
        self.assertEqual(work([pace(1, 8), pace(21, 0), pace(0, 9), make(1, 0, 0)])["pauses"], 2)


class Steps(unittest.TestCase):
    # Long enough a round that no pay of these ends it.
    HOUSE = [make(1, 0, 1), make(1, 1, 6)]
    for n in range(20):
        HOUSE += [make(1, 2, 1), put(1, 2, 0, 0), copy(1, 0, 2)]

    def test_so_many_steps_for_each_word(self):
        for k in (0, 1, 2, 3):
            for fields in (0, 1, 6):
                paid = self.HOUSE + [start(), pace(k, 0), make(3, 3, fields)]
                stepped = self.HOUSE + [start(), pace(0, 0), step(k * (fields + 2)), make(3, 3, fields)]
                self.assertEqual(seen(paid), seen(stepped), (k, fields))

    def test_a_weak_one_pays_three_words(self):
        for k in (0, 1, 4):
            paid = self.HOUSE + [start(), pace(k, 0), weak(1, 3, 0)]
            stepped = self.HOUSE + [start(), pace(0, 0), step(3 * k), weak(1, 3, 0)]
            self.assertEqual(seen(paid), seen(stepped), k)

    def test_the_most_that_is_paid(self):
        stepped = self.HOUSE + [start(), step(160), make(3, 3, 6)]
        self.assertEqual(seen(self.HOUSE + [start(), pace(20, 0), make(3, 3, 6)]), seen(stepped))

    def test_a_round_that_goes_on_is_paid_for_whatever_is_free(self):
        calls = self.HOUSE + [pace(2, 0), make(3, 3, 0)]
        self.assertEqual((work(calls)["doing"], work(calls)["pauses"]), (RESTS, 0))
        calls = self.HOUSE + [start(), pace(2, 0), make(3, 3, 0)]
        self.assertEqual((work(calls)["doing"], work(calls)["grey"]), (MARKS, 1))

    def test_each_state_is_paid_for(self):
        # One step for each of two words, from each place in a round that moves and heals.
        calls = [make(1, 0, 6), make(1, 1, 6), make(1, 2, 1), drop(1, 1), start(), pace(1, 0)]
        for n in range(16):
            paid = calls + [step(n), make(3, 3, 0)]
            stepped = calls[:-1] + [step(n), step(2), make(3, 3, 0)]
            self.assertEqual(seen(paid), seen(stepped), n)
        states = {last(calls + [step(n)]) for n in range(16)}
        self.assertEqual(states, {MARKS, SWEEPS, MOVES, HEALS})

    def test_the_pace_that_was_told_last(self):
        calls = self.HOUSE + [start(), pace(3, 0), pace(1, 8), make(3, 3, 0)]
        self.assertEqual(seen(calls), seen(self.HOUSE + [start(), step(2), make(3, 3, 0)]))
        calls = self.HOUSE + [start(), pace(3, 0), pace(0, 8), make(3, 3, 0)]
        self.assertEqual(seen(calls), seen(self.HOUSE + [start(), make(3, 3, 0)]))

    def test_other_calls_pay_nothing(self):
        calls = self.HOUSE + [start(), pace(20, 8)]
        for call in (put(1, 1, 0, 1), copy(1, 3, 1), drop(1, 3), save(1, 0, 1), words(3, 0)):
            self.assertEqual((work(calls + [call])["doing"], work(calls + [call])["grey"]), (MARKS, 2))


class Ends(unittest.TestCase):
    def test_nothing_more_is_done_when_the_round_ends(self):
        told_now = work([pace(20, 8), make(1, 0, 6)])
        # 160 steps are paid for, ten make the round of an empty house: it isn't begun again.
        self.assertEqual((told_now["doing"], told_now["rounds"], told_now["pauses"]), (RESTS, 1, 2))

    def test_each_call_begins_one_round_at_most(self):
        calls = [pace(20, 8)]
        for made in range(1, 20):
            calls = calls + [make(1, 0, 0)]
            self.assertEqual((work(calls)["doing"], work(calls)["rounds"]), (RESTS, made))

    def test_a_round_that_was_begun_otherwise_ends_and_none_is_begun(self):
        told_now = work([start(), pace(20, 8), make(1, 0, 6)])
        self.assertEqual((told_now["doing"], told_now["rounds"], told_now["pauses"]), (RESTS, 1, 2))
        told_now = work([start(), step(9), pace(1, 8), make(1, 0, 6)])
        self.assertEqual((told_now["doing"], told_now["rounds"], told_now["pauses"]), (RESTS, 1, 2))

    def test_just_to_the_end_and_one_short_of_it(self):
        for steps, doing in ((8, RESTS), (7, SWEEPS), (9, RESTS)):
            calls = [start(), step(steps), pace(1, 0), make(1, 0, 0)]
            self.assertEqual(work(calls)["doing"], doing)
            self.assertEqual(work(calls + [finish()])["rounds"], 1)

    def test_a_house_that_is_never_full(self):
        # One thing of eight words is held at a time: the pay keeps room for 199 of them.
        calls = [pace(2, 2)] + [make(1, 0, 6)] * 199
        self.assertEqual(asked(calls), [0] + list(range(1, 200)))


class WeakOnePaidFor(unittest.TestCase):
    # Region 1 keeps 1 alone, which moves; 3 is in the current region.
    HOUSE = [make(1, 0, 6), make(1, 1, 6), make(1, 2, 1), drop(1, 1)]

    def test_while_its_thing_moves(self):
        for k in (1, 2, 5, 20):
            for n in range(18):
                for target in (0, 3):
                    calls = self.HOUSE + [save(1, 0, 0), start(), step(n), pace(k, 0), weak(1, target, 0), pace(0, 0)]
                    calls += [finish(), make(3, 0, 6), make(3, 1, 6)]
                    found = {thing[0]: thing for thing in shown(calls)[0]}
                    with self.subTest(k=k, steps=n, target=target):
                        self.assertEqual((found[4][2], found[4][5]), (1, [1]))
                        self.assertNotIn(found[1][1], (16, 24))
                        self.assertEqual(last(calls + [look(1, 1, target)]), 1)
                        self.assertEqual(last(calls + [start(), finish(), look(1, 1, target)]), 1)

    def test_begun_and_ended_by_that_call(self):
        calls = self.HOUSE + [pace(20, 8), weak(1, 3, 0)]
        found, (current, regions), told_now = shown(calls)
        self.assertEqual([thing[:2] for thing in found], [(3, 32), (1, 35), (4, 43)])
        self.assertEqual((told_now["doing"], told_now["rounds"], regions[1]), (RESTS, 1, (0, 0)))
        self.assertEqual(found[2][5], [1])


if __name__ == "__main__":
    unittest.main()
