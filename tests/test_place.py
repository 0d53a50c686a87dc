"""Promise 6: bx_place."""

import unittest

from dotboxes.layer import answers
from helper import (GREATEST, LEAF, add, all_boxes, drop, fixed, joined, last, lay, loose, place, places, put, replies,
                    start)


class Refusals(unittest.TestCase):
    def test_no_box_i(self):
        for i in (1, 255, 256, 65536, GREATEST):
            with self.subTest(i=i):
                self.assertEqual(replies(start(), place(i), lay(9, 9), place(i)), [0, -2, 1, -2])
        self.assertEqual(replies(*all_boxes(), lay(9, 9), place(256), place(GREATEST))[-2:], [-2, -2])

    def test_a_dropped_box_is_no_box(self):
        self.assertEqual(replies(start(), add(0), lay(9, 9), drop(1), place(1))[-1], -2)
        self.assertEqual(replies(start(), add(0), drop(1), place(1))[-1], -2)

    def test_a_box_that_is_new(self):
        calls = [start(), add(0), place(1), lay(9, 9), add(0), add(1), place(2), place(3), lay(9, 9)]
        self.assertEqual(replies(*calls)[2:3] + replies(*calls)[6:8], [-11, -11, -11])
        self.assertNotIn(-11, places(calls, (1, 2, 3)))

    def test_a_box_that_is_new_and_set(self):
        self.assertEqual(last(start(), lay(9, 9), add(0), put(1), place(1)), -11)

    def test_a_new_box_with_a_dropped_ones_number(self):
        calls = [start(), add(0), lay(9, 9), drop(1), add(0)]
        self.assertEqual(last(*calls, place(1)), -11)
        self.assertNotEqual(last(*calls, lay(9, 9), place(1)), -11)

    def test_a_box_is_no_longer_new_wherever_it_stands(self):
        calls = [start(**loose(kind=0)), add(0, **fixed(0, 0)), lay(0, 0)]
        self.assertEqual(last(*calls, place(1)), (0, 0, 0, 0))

    def test_a_refused_lay_leaves_it_new(self):
        self.assertEqual(last(start(), add(0), lay(65536, 1), place(1)), -11)


class Start(unittest.TestCase):
    def test_box_0_behind_start(self):
        self.assertEqual(replies(start(), place(0)), [0, (0, 0, 0, 0)])
        self.assertEqual(replies(start(**fixed(9, 9)), place(0)), [0, (0, 0, 0, 0)])

    def test_box_0_behind_a_second_start(self):
        calls = [start(), add(0), lay(9, 8), place(0), start(kind=LEAF), place(0), place(1)]
        self.assertEqual(replies(*calls)[3:], [(0, 0, 9, 8), 0, (0, 0, 0, 0), -2])

    def test_box_0_behind_a_refused_second_start(self):
        self.assertEqual(last(start(), lay(9, 8), start(none=1), place(0)), (0, 0, 9, 8))

    def test_a_box_of_the_first_start_is_new_behind_the_second(self):
        calls = [start(), add(0), lay(9, 8), start(), add(0), place(1)]
        self.assertEqual(last(*calls), -11)


class AsLaidOutLast(unittest.TestCase):
    FIRST = [start(**loose()), add(0, **fixed(3, 4)), add(0, **fixed(5, 6)), add(0, **fixed(7, 8)), lay(30, 20)]
    PLACES = [(0, 0, 30, 20), (0, 0, 3, 4), (3, 0, 5, 6), (8, 0, 7, 8)]

    def test_laid_out(self):
        self.assertEqual(places(self.FIRST, (0, 1, 2, 3)), self.PLACES)

    def test_a_box_set_since(self):
        calls = self.FIRST + [put(1, **fixed(9, 9)), put(0, **loose(kind=1, pad=7))]
        self.assertEqual(places(calls, (0, 1, 2, 3)), self.PLACES)

    def test_a_box_added_since(self):
        calls = self.FIRST + [add(0, **fixed(9, 9))]
        self.assertEqual(places(calls, (0, 1, 2, 3, 4)), self.PLACES + [-11])

    def test_a_box_dropped_since(self):
        calls = self.FIRST + [drop(1)]
        self.assertEqual(places(calls, (0, 1, 2, 3)), self.PLACES[:1] + [-2] + self.PLACES[2:])

    def test_a_refused_lay_since(self):
        calls = self.FIRST + [put(1, **fixed(9, 9)), lay(GREATEST, 1), lay(1, 65536)]
        self.assertEqual(places(calls, (0, 1, 2, 3)), self.PLACES)

    def test_asked_twice(self):
        self.assertEqual(places(self.FIRST, (2, 2, 3, 2)), [self.PLACES[k] for k in (2, 2, 3, 2)])

    def test_in_numbers(self):
        out = answers(joined(self.FIRST + [place(2), place(9), place(3)]))
        self.assertEqual(out[-15:], [5, 1, 3, 0, 5, 6, 2, 0, -2, 5, 1, 8, 0, 7, 8])

    def test_below_0(self):
        calls = [start(**loose()), add(0, **fixed(4, 9, side=3)), lay(2, 2)]
        self.assertEqual(places(calls, (1,)), [(0, -7, 4, 9)])


if __name__ == "__main__":
    unittest.main()
