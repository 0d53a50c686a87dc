"""Promise 7: bx_at."""

import unittest

from dotboxes.boxes import Boxes
from dotboxes.rules import Rule
from helper import (COLUMN, GREATEST, LEAF, ROW, add, at, chain, drop, fixed, last, lay, loose, places, put, replies,
                    rule, start)

LOWEST = -GREATEST - 1


def found(calls, dots):
    return replies(*calls, *[at(x, y) for x, y in dots])[len(calls):]


class Box0(unittest.TestCase):
    def test_in_a_window_of_0_by_0(self):
        for calls in ([start()], [start(), lay(0, 0)], [start(), lay(9, 9), start()], [start(), lay(9, 9), lay(0, 0)]):
            with self.subTest(calls=calls):
                dots = [(0, 0), (-1, -1), (1, 1), (GREATEST, GREATEST), (LOWEST, LOWEST)]
                self.assertEqual(found(calls, dots), [-2] * 5)

    def test_in_a_window_that_is_0_one_way(self):
        self.assertEqual(found([start(), lay(9, 0)], [(0, 0), (5, 0), (5, -1)]), [-2, -2, -2])
        self.assertEqual(found([start(), lay(0, 9)], [(0, 0), (0, 5), (-1, 5)]), [-2, -2, -2])

    def test_its_edges(self):
        calls = [start(), lay(9, 7)]
        self.assertEqual(found(calls, [(0, 0), (8, 0), (0, 6), (8, 6)]), [0] * 4)
        self.assertEqual(found(calls, [(-1, 0), (0, -1), (9, 0), (0, 7), (9, 6), (8, 7), (9, 7)]), [-2] * 7)

    def test_as_large_as_may_be(self):
        calls = [start(), lay(65535, 65535)]
        self.assertEqual(found(calls, [(65534, 65534), (65535, 0), (0, 65535)]), [0, -2, -2])

    def test_far_away(self):
        far = (LOWEST, LOWEST + 1, -65536, GREATEST - 1, GREATEST, 65536)
        calls = [start(**loose()), add(0, **fixed(9, 9)), lay(9, 9)]
        self.assertEqual(found(calls, [(x, 4) for x in far] + [(4, y) for y in far]), [-2] * 12)
        self.assertEqual(found(calls, [(x, y) for x in far for y in far]), [-2] * 36)

    def test_a_refused_lay(self):
        self.assertEqual(found([start(), lay(9, 9), lay(65536, 3)], [(8, 8), (9, 9)]), [0, -2])


class Within(unittest.TestCase):
    def test_the_edges_of_a_box(self):
        calls = [start(**loose(pad=2, gap=3)), add(0, **fixed(4, 5)), add(0, **fixed(6, 7)), lay(40, 30)]
        self.assertEqual(places(calls, (1, 2)), [(2, 2, 4, 5), (9, 2, 6, 7)])
        self.assertEqual(found(calls, [(2, 2), (5, 2), (2, 6), (5, 6)]), [1] * 4)
        self.assertEqual(found(calls, [(1, 2), (2, 1), (6, 2), (2, 7), (6, 6), (5, 7), (8, 2)]), [0] * 7)
        self.assertEqual(found(calls, [(9, 2), (14, 2), (9, 8), (14, 8)]), [2] * 4)
        self.assertEqual(found(calls, [(15, 2), (9, 9), (9, 1)]), [0] * 3)

    def test_boxes_with_no_gap(self):
        for kind in (ROW, COLUMN):
            with self.subTest(kind=kind):
                calls = [start(**loose(kind=kind))] + [add(0, **fixed(2, 2))] * 3 + [lay(6, 6)]
                dots = [(k, 0) if kind == ROW else (0, k) for k in range(7)]
                self.assertEqual(found(calls, dots), [1, 1, 2, 2, 3, 3, -2])

    def test_a_box_of_no_size(self):
        calls = [start(**loose()), add(0, **fixed(0, 5)), add(0, **fixed(5, 0)), add(0, **fixed(2, 2)), lay(9, 9)]
        self.assertEqual(found(calls, [(0, 0), (4, 0), (5, 0), (6, 1), (7, 1)]), [0, 0, 3, 3, 0])

    def test_several_deep(self):
        calls = [start(**loose(pad=1)), add(0, **loose(pad=1, grow=1)), add(1, **loose(pad=1, grow=1)),
                 add(2, **loose(kind=LEAF, grow=1)), lay(9, 9)]
        self.assertEqual(found(calls, [(k, 4) for k in range(10)]), [0, 1, 2, 3, 3, 3, 2, 1, 0, -2])
        self.assertEqual(found(calls, [(4, k) for k in range(10)]), [0, 1, 2, 3, 3, 3, 2, 1, 0, -2])

    def test_sixteen_deep(self):
        calls = chain(16) + [lay(40, 40)]
        calls += [put(number, **loose(pad=1, grow=1)) for number in range(16)] + [lay(40, 40)]
        self.assertEqual(found(calls, [(k, 20) for k in range(17)]), list(range(16)) + [15])

    def test_the_last_of_64(self):
        calls = [start(**loose())] + [add(0, **fixed(1, 1))] * 64 + [lay(70, 1)]
        self.assertEqual(found(calls, [(k, 0) for k in range(66)]), list(range(1, 65)) + [0, 0])

    def test_the_last_of_several(self):
        # Boxes that are laid out have no dot in common, so the object itself is given places.
        boxes = Boxes()
        boxes.bx_start(Rule(rule()))
        for into in (0, 0, 0, 1, 2):
            boxes.bx_add(into, Rule(rule()))
        given = [(0, 0, 9, 9), (0, 0, 6, 6), (2, 2, 6, 6), (4, 4, 1, 1), (0, 0, 9, 9), (3, 3, 1, 1)]
        for number, where in enumerate(given):
            boxes.by_number[number].place = where
        dots = [(1, 1), (2, 2), (3, 3), (4, 4), (5, 5), (8, 8)]
        self.assertEqual([boxes.bx_at(x, y) for x, y in dots], [4, 2, 5, 3, 2, 0])


class PartlyOutside(unittest.TestCase):
    def test_outside_of_box_0(self):
        calls = [start(**loose()), add(0, **fixed(9, 9, side=2)), lay(5, 5)]
        self.assertEqual(places(calls, (1,)), [(0, -2, 9, 9)])
        self.assertEqual(found(calls, [(0, 0), (4, 4), (5, 0), (0, -1), (0, 5), (8, 6)]), [1, 1, -2, -2, -2, -2])

    def test_outside_of_another(self):
        calls = [start(**loose()), add(0, **fixed(4, 4, kind=ROW)), add(1, **fixed(9, 9)), add(0, **fixed(3, 3))]
        calls += [lay(30, 30)]
        self.assertEqual(places(calls, (1, 2, 3)), [(0, 0, 4, 4), (0, 0, 9, 9), (4, 0, 3, 3)])
        self.assertEqual(found(calls, [(3, 3), (4, 2), (4, 3), (3, 4), (8, 8)]), [2, 3, 0, 0, 0])

    def test_wholly_outside(self):
        calls = [start(**loose()), add(0, **fixed(4, 4, kind=ROW, pad=10)), add(1, **fixed(5, 5)), lay(30, 30)]
        self.assertEqual(places(calls, (2,)), [(10, 10, 5, 5)])
        self.assertEqual(found(calls, [(10, 10), (12, 12), (3, 3)]), [0, 0, 1])


class AsLaidOutLast(unittest.TestCase):
    FIRST = [start(**loose()), add(0, **fixed(4, 4, kind=ROW)), add(0, **fixed(4, 4)), add(1, **fixed(2, 2)),
             lay(20, 20)]
    DOTS = [(1, 1), (3, 3), (4, 3), (8, 3)]

    def test_laid_out(self):
        self.assertEqual(found(self.FIRST, self.DOTS), [3, 1, 2, 0])

    def test_set_since(self):
        calls = self.FIRST + [put(1, **fixed(9, 9, kind=COLUMN)), put(0, **loose(kind=COLUMN, pad=5))]
        calls += [put(3, **fixed(0, 0))]
        self.assertEqual(found(calls, self.DOTS), [3, 1, 2, 0])

    def test_new_ones_are_not_found(self):
        calls = self.FIRST + [add(0, **fixed(9, 9)), add(1, **fixed(9, 9))]
        self.assertEqual(found(calls, self.DOTS), [3, 1, 2, 0])
        self.assertEqual(last(start(), add(0), at(0, 0)), -2)

    def test_dropped_ones_are_not_found(self):
        self.assertEqual(found(self.FIRST + [drop(2)], self.DOTS), [3, 1, 0, 0])
        self.assertEqual(found(self.FIRST + [drop(3)], self.DOTS), [1, 1, 2, 0])
        self.assertEqual(found(self.FIRST + [drop(3), drop(1)], self.DOTS), [0, 0, 2, 0])

    def test_a_new_one_with_a_dropped_ones_number_is_not_found(self):
        calls = self.FIRST + [drop(2), add(0, **fixed(4, 4))]
        self.assertEqual(found(calls, self.DOTS), [3, 1, 0, 0])
        self.assertEqual(found(calls + [lay(20, 20)], self.DOTS), [3, 1, 2, 0])

    def test_a_dropped_one_whose_number_is_elsewhere(self):
        calls = self.FIRST + [drop(3), add(2, **fixed(2, 2)), put(2, **fixed(4, 4, kind=ROW)), add(2, **fixed(2, 2))]
        self.assertEqual(replies(*calls)[-4:], [3, -13, 0, 3])
        self.assertEqual(found(calls, self.DOTS), [1, 1, 2, 0])
        self.assertEqual(found(calls + [lay(20, 20)], [(1, 1), (5, 1), (6, 1)]), [1, 3, 2])


if __name__ == "__main__":
    unittest.main()
