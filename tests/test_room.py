"""How room is found: behind what is given out of the current region, else in the lowest free one."""

import unittest

from quietsweep.heap import Heap
from tests.spelling import asked, drop, make, weak


def made_till_no_room(call):
    """How many times in a row the call is answered with a thing."""
    told = asked([call] * 100)
    count = told.index(-8)
    assert told[:count] == list(range(1, count + 1))
    assert told[count:] == [-8] * (100 - count)
    return count


class Answered(unittest.TestCase):
    def test_how_many_things_of_each_size_there_is_room_for(self):
        for fields, in_a_region in ((0, 8), (1, 5), (2, 4), (3, 3), (4, 2), (5, 2), (6, 2)):
            with self.subTest(fields=fields):
                self.assertEqual(made_till_no_room(make(1, 0, fields)), 8 * in_a_region)

    def test_sort_takes_no_room(self):
        self.assertEqual(made_till_no_room(make(1, 0, 6, 2)), 16)

    def test_a_weak_one_takes_three_words(self):
        told = asked([make(1, 0, 1)] + [weak(1, 1, 0)] * 40)
        self.assertEqual(told, list(range(1, 41)) + [-8])

    def test_a_weak_one_just_fits(self):
        told = asked([make(1, 0, 6)] * 15 + [make(1, 0, 3), weak(1, 1, 0), weak(1, 1, 0)])
        self.assertEqual(told[15:], [16, 17, -8])

    def test_one_that_just_fits_and_one_that_does_not(self):
        seven = [make(1, 0, 6)] * 14
        self.assertEqual(asked(seven + [make(1, 0, 6), make(1, 0, 6), make(1, 0)])[14:], [15, 16, -8])
        self.assertEqual(asked(seven + [make(1, 0, 6), make(1, 0, 5), make(1, 0)])[14:], [15, 16, -8])
        self.assertEqual(asked(seven + [make(1, 0, 5), make(1, 0, 5), make(1, 0), make(1, 0)])[14:], [15, 16, 17, -8])

    def test_the_rest_of_a_region_that_was_left_is_not_given_out(self):
        left = [make(1, 0, 6), make(1, 0, 4), make(1, 0, 6)] + [make(1, 0, 6)] * 13
        self.assertEqual(asked(left + [make(1, 0)])[-2:], [16, -8])

    def test_a_smaller_one_has_room_where_a_larger_one_has_none(self):
        told = asked([make(1, 0, 6)] * 15 + [make(1, 0, 6 - 2), make(1, 0, 1), make(1, 0, 0), make(1, 0, 0)])
        self.assertEqual(told[15:], [16, -8, 17, -8])

    def test_dropping_gives_no_room_back(self):
        told = asked([make(1, 0, 6), drop(1, 0)] * 17)
        self.assertEqual(told[-4:], [16, 0, -8, 0])


class Places(unittest.TestCase):
    def places(self, sizes):
        heap = Heap()
        return [heap.take_room(words) for words in sizes]

    def test_the_first_place_is_the_first_word_of_region_one(self):
        self.assertEqual(self.places([2]), [16])

    def test_behind_what_is_given_out(self):
        self.assertEqual(self.places([2, 3, 8]), [16, 18, 21])

    def test_one_that_just_fits(self):
        self.assertEqual(self.places([8, 8, 2]), [16, 24, 32])

    def test_one_that_does_not_fit_goes_to_the_next_region(self):
        self.assertEqual(self.places([8, 7, 2, 2]), [16, 24, 32, 34])

    def test_regions_in_order_till_none_is_free(self):
        self.assertEqual(self.places([8, 8] * 8 + [2]), [16 + 8 * n for n in range(16)] + [0])

    def test_the_free_region_with_the_lowest_number(self):
        heap = Heap()
        heap.current = 5
        heap.given_out = {1: 3, 2: 16, 3: 0, 4: 0, 5: 9, 6: 0, 7: 2, 8: 0}
        self.assertEqual(heap.free_regions(), [3, 4, 6, 8])
        self.assertEqual(heap.take_room(8), 48)
        self.assertEqual((heap.current, heap.given_out[3], heap.given_out[5]), (3, 8, 9))

    def test_the_current_region_is_not_free_though_nothing_of_it_is_given_out(self):
        heap = Heap()
        self.assertEqual(heap.free_regions(), [2, 3, 4, 5, 6, 7, 8])

    def test_where_there_is_no_room_nothing_changes(self):
        heap = Heap()
        heap.current = 5
        heap.given_out = {1: 3, 2: 16, 3: 1, 4: 1, 5: 9, 6: 1, 7: 2, 8: 1}
        before = dict(heap.given_out)
        self.assertEqual(heap.make(0, 6), 0)
        self.assertEqual((heap.current, heap.given_out, heap.made, heap.things), (5, before, 0, {}))


if __name__ == "__main__":
    unittest.main()
