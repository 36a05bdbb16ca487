"""Pauses: how many there were, and how long the longest was."""

import unittest

from tests.spelling import SWEEPS, drop, finish, make, pace, put, save, shown, start, step, weak, words


def pauses(calls):
    work = shown(calls)[2]
    return work["pauses"], work["longest"]


def with_waiting(count):
    """A house in which so many last words wait, behind a round of two pauses, of 16 and of 0."""
    calls = []
    for n in range(count):
        calls += [make(1, 0, 0, 2), drop(1, 0)]
    return calls + [start(), finish()]


class Roots(unittest.TestCase):
    def test_at_first_there_was_none(self):
        self.assertEqual(pauses([make(1, 0)]), (0, 0))

    def test_beginning_with_none_one_and_many_last_words_waiting(self):
        self.assertEqual(pauses([start()]), (1, 16))
        for count in (0, 1, 2, 8, 17):
            setup = with_waiting(count)
            self.assertEqual(len(shown(setup)[2]["waiting"]), count)
            before = pauses(setup)[0]
            self.assertEqual(pauses(setup + [start()]), (before + 1, 16 + count))

    def test_roots_are_counted_whether_they_hold_something_or_not(self):
        held = [make(t, r) for t in (1, 2, 3) for r in range(4)] + [save(1, n, n) for n in range(4)]
        self.assertEqual(pauses(held + [start()]), (1, 16))

    def test_last_words_that_were_told_count_no_more(self):
        setup = with_waiting(3) + [words(1, 0)]
        self.assertEqual(pauses(setup + [start()]), (3, 18))

    def test_the_end_of_healing(self):
        # Region 1 keeps those with last words and one more, up to half of it.
        for count in (0, 1, 3):
            setup = [make(1, 0, 0, 2)] * count
            setup += [make(1, 1, 0), make(1, 2, 6), make(1, 2, 6), make(1, 3, 6), drop(1, 0), drop(1, 2), start(),
                      finish()]
            work = shown(setup)[2]
            self.assertEqual(len(work["waiting"]), count)
            # The round began with 16 roots: those that died in it make the last pause the longest.
            self.assertEqual((work["pauses"], work["longest"]), (3, 16 + count))

    def test_healing_itself_is_no_pause(self):
        calls = [make(1, 0, 6), make(1, 1, 6), make(1, 2, 6), drop(1, 1), start()]
        # Two are looked at, the end of marking, eight regions, to moving, one moves, to healing, two heal, the end.
        self.assertEqual([pauses(calls + [step(n)])[0] for n in range(19)], [1] * 3 + [2] * 14 + [3] * 2)

    def test_dying_is_no_pause(self):
        calls = [make(1, 0, 0, 2), drop(1, 0), start()]
        self.assertEqual([pauses(calls + [step(n)]) for n in range(4)], [(1, 16), (1, 16), (1, 16), (2, 16)])

    def test_a_refused_start_is_no_pause(self):
        self.assertEqual(pauses([start(), start(), start()]), (1, 16))

    def test_where_allocating_begins(self):
        self.assertEqual(pauses([pace(1, 8), make(1, 0, 0)]), (2, 16))


class WeakOnes(unittest.TestCase):
    def test_with_none_it_is_a_pause_of_no_length(self):
        self.assertEqual(pauses([start(), step(1)]), (2, 16))

    def test_many_that_are_marked(self):
        # Each is kept in a field of its own; seventeen are more than the roots.
        for count in (1, 16, 17, 18):
            calls = [make(1, 0, 6), make(1, 1, 6), make(1, 2, 6)]
            for n in range(count):
                calls += [weak(1, 3, 0), put(1, n // 6, n % 6, 3)]
            end = calls + [start(), step(3 + count + 1)]
            self.assertEqual([thing[4] for thing in shown(end)[0]], [1] * (3 + count))
            self.assertEqual(shown(end)[2]["doing"], SWEEPS)
            self.assertEqual(pauses(end), (2, max(16, count)))

    def test_many_that_are_not_marked(self):
        for count in (16, 17, 30):
            calls = [make(1, 0, 0)] + [weak(1, 1, 0)] * count + [drop(1, 1), start()]
            self.assertEqual(pauses(calls + [step(1)]), (1, 16))
            self.assertEqual(pauses(calls + [step(2)]), (2, max(16, count)))

    def test_those_that_let_go_count(self):
        calls = [make(1, 0, 0)] + [weak(1, 1, 0)] * 20 + [drop(1, 0), start(), finish()]
        self.assertEqual(pauses(calls), (2, 20))
        # A round later there is one weak one left, and the longest is still that of the round before.
        self.assertEqual(pauses(calls + [start(), finish()])[1], 20)

    def test_no_pause_is_longer_than_roots_and_weak_ones_are_many(self):
        calls = [make(1, 0, 0)] + [weak(1, 1, 0)] * 30 + with_waiting(2) + [start(), finish()]
        self.assertLessEqual(pauses(calls)[1], 30)


class Rounds(unittest.TestCase):
    def test_rounds_add_up(self):
        for rounds in range(6):
            work = shown([start(), finish()] * rounds)[2]
            self.assertEqual((work["rounds"], work["pauses"]), (rounds, 2 * rounds))


if __name__ == "__main__":
    unittest.main()
