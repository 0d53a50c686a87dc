"""Places the other way: down in a row, across in a column, by each box's own side."""

import unittest

from helper import COLUMN, LEAF, ROW, add, fixed, lay, loose, places, put, start


def spans(sides, room, least=0, wish=0, most=65535, **outer):
    """Beginnings and lengths the other way of leaves with these sides in box 0, in a row and in a column."""
    told = []
    for way, kind in ((1, ROW), (0, COLUMN)):
        letter = "_" + "xy"[way]
        bounds = {"least" + letter: least, "wish" + letter: wish, "most" + letter: most}
        calls = [start(**loose(kind=kind, **outer))]
        calls += [add(0, **loose(kind=LEAF, side=side, **bounds)) for side in sides]
        calls.append(lay(*((9, room) if kind == ROW else (room, 9))))
        told.append([(where[way], where[2 + way]) for where in places(calls, range(1, len(sides) + 1))])
    if told[0] != told[1]:
        raise AssertionError(f"in a row {told[0]}, but in a column {told[1]}")
    return told[0]


ALL = (0, 1, 2, 3)


class Side(unittest.TestCase):
    def test_a_room_larger_than_the_natural_size(self):
        self.assertEqual(spans(ALL, 16, wish=6), [(0, 16), (0, 6), (5, 6), (10, 6)])

    def test_an_odd_number_more(self):
        self.assertEqual(spans(ALL, 17, wish=6), [(0, 17), (0, 6), (5, 6), (11, 6)])

    def test_a_room_of_the_natural_size(self):
        self.assertEqual(spans(ALL, 6, wish=6), [(0, 6)] * 4)

    def test_a_room_smaller_than_the_natural_size(self):
        self.assertEqual(spans(ALL, 4, wish=6), [(0, 4), (0, 6), (-1, 6), (-2, 6)])

    def test_an_odd_number_less(self):
        self.assertEqual(spans(ALL, 3, wish=6), [(0, 3), (0, 6), (-2, 6), (-3, 6)])
        self.assertEqual(spans(ALL, 5, wish=6), [(0, 5), (0, 6), (-1, 6), (-1, 6)])

    def test_a_room_of_0(self):
        self.assertEqual(spans(ALL, 0, wish=7), [(0, 0), (0, 7), (-4, 7), (-7, 7)])
        self.assertEqual(spans(ALL, 0), [(0, 0)] * 4)

    def test_side_0_held_by_its_least(self):
        self.assertEqual(spans(ALL, 4, least=5, wish=6), [(0, 5), (0, 6), (-1, 6), (-2, 6)])
        self.assertEqual(spans((0,), 5, least=5, wish=6), [(0, 5)])
        self.assertEqual(spans((0,), 6, least=5, wish=6), [(0, 6)])
        self.assertEqual(spans((0,), 0, least=5, wish=6), [(0, 5)])

    def test_side_0_held_by_its_most(self):
        self.assertEqual(spans(ALL, 16, wish=6, most=8), [(0, 8), (0, 6), (5, 6), (10, 6)])
        self.assertEqual(spans((0,), 8, wish=6, most=8), [(0, 8)])
        self.assertEqual(spans((0,), 7, wish=6, most=8), [(0, 7)])

    def test_a_most_of_0(self):
        self.assertEqual(spans(ALL, 16, most=0), [(0, 0), (0, 0), (8, 0), (16, 0)])

    def test_one_size_alone(self):
        self.assertEqual(spans(ALL, 16, least=6, wish=6, most=6), [(0, 6), (0, 6), (5, 6), (10, 6)])

    def test_with_a_pad(self):
        self.assertEqual(spans(ALL, 26, wish=6, pad=5), [(5, 16), (5, 6), (10, 6), (15, 6)])

    def test_with_a_pad_wider_than_the_box(self):
        self.assertEqual(spans(ALL, 7, wish=6, pad=5), [(5, 0), (5, 6), (2, 6), (-1, 6)])
        self.assertEqual(spans(ALL, 0, least=2, wish=3, pad=255), [(255, 2), (255, 3), (253, 3), (252, 3)])

    def test_neither_gap_nor_rest_counts(self):
        for rest in range(4):
            self.assertEqual(spans(ALL, 16, wish=6, gap=50, rest=rest), [(0, 16), (0, 6), (5, 6), (10, 6)])

    def test_neither_grow_nor_give_counts(self):
        calls = [start(**loose()), add(0, **loose(kind=LEAF, wish_y=6, side=1, grow=9, give=9)), lay(9, 16)]
        self.assertEqual(places(calls, (1,)), [(0, 0, 9, 6)])
        self.assertEqual(places(calls + [lay(9, 4)], (1,)), [(0, 0, 9, 6)])

    def test_its_own_side_not_that_of_the_box_around(self):
        calls = [start(**loose()), add(0, **fixed(20, 20, kind=ROW, side=3)), add(1, **fixed(4, 4, side=0)),
                 add(1, **fixed(4, 4, side=2)), lay(50, 50)]
        self.assertEqual(places(calls, (1, 2, 3)), [(0, 30, 20, 20), (0, 30, 4, 4), (4, 38, 4, 4)])

    def test_it_doesnt_count_along(self):
        calls = [start(**loose()), add(0, **loose(kind=LEAF, wish_x=6, side=3)), lay(50, 50)]
        self.assertEqual(places(calls, (1,)), [(0, 50, 6, 0)])

    def test_the_natural_size_of_one_with_boxes(self):
        calls = [start(**loose()), add(0, **loose(kind=COLUMN, pad=1, gap=2, side=2))]
        calls += [add(1, **fixed(3, 4)), add(1, **fixed(5, 6)), lay(50, 51)]
        self.assertEqual(places(calls, (1, 2, 3)), [(0, 18, 7, 14), (1, 19, 3, 4), (1, 25, 5, 6)])

    def test_a_box_set_to_another_side(self):
        calls = [start(**loose()), add(0, **fixed(4, 4, side=1)), lay(20, 20)]
        calls += [put(1, **fixed(4, 4, side=3)), lay(20, 20)]
        self.assertEqual(places(calls, (1,)), [(0, 16, 4, 4)])


if __name__ == "__main__":
    unittest.main()
