"""The natural size of a box: what it has the other way, where its side is 1 to 3."""

import unittest

from helper import COLUMN, LEAF, ROW, add, drop, fixed, lay, loose, place, put, replies, start


def natural(changes, *inner):
    """The natural size of box 1 with these in it: across as it lies in a column, down as it lies in a row."""
    calls = [start(**loose(kind=COLUMN)), add(0, **changes | {"side": 1})] + list(inner)
    calls += [lay(100, 100), place(1), put(0, **loose(kind=ROW)), lay(100, 100), place(1)]
    told = replies(*calls)
    return (told[-4][2], told[-1][3])


def sizes(**changes):
    """Changes for both directions: wish=(3, 4) for wish_x=3, wish_y=4."""
    told = {}
    for name, value in changes.items():
        told |= {name + "_x": value[0], name + "_y": value[1]} if isinstance(value, tuple) else {name: value}
    return loose(**told)


class Leaf(unittest.TestCase):
    def test_its_wish(self):
        self.assertEqual(natural(sizes(kind=LEAF, wish=(3, 4))), (3, 4))
        self.assertEqual(natural(sizes(kind=LEAF, least=(1, 2), wish=(3, 4), most=(5, 6))), (3, 4))
        self.assertEqual(natural(sizes(kind=LEAF, wish=(65535, 65534))), (65535, 65534))

    def test_its_content_is_0(self):
        self.assertEqual(natural(sizes(kind=LEAF, pad=255, gap=255)), (0, 0))
        self.assertEqual(natural(sizes(kind=LEAF, pad=255, gap=255, wish=(3, 4))), (3, 4))

    def test_a_most_of_0(self):
        self.assertEqual(natural(fixed(0, 0)), (0, 0))


class NoBoxes(unittest.TestCase):
    def test_twice_the_pad(self):
        for kind in (ROW, COLUMN):
            with self.subTest(kind=kind):
                self.assertEqual(natural(sizes(kind=kind, pad=7)), (14, 14))
                self.assertEqual(natural(sizes(kind=kind, pad=7, gap=100)), (14, 14))
                self.assertEqual(natural(sizes(kind=kind)), (0, 0))
                self.assertEqual(natural(sizes(kind=kind, pad=255)), (510, 510))

    def test_wish_content_and_most(self):
        for kind in (ROW, COLUMN):
            with self.subTest(kind=kind):
                self.assertEqual(natural(sizes(kind=kind, pad=7, wish=(13, 15))), (14, 15))
                self.assertEqual(natural(sizes(kind=kind, pad=7, wish=(15, 13))), (15, 14))
                self.assertEqual(natural(sizes(kind=kind, pad=7, most=(13, 14))), (13, 14))
                self.assertEqual(natural(sizes(kind=kind, pad=7, most=(0, 0))), (0, 0))

    def test_boxes_that_are_gone(self):
        calls = [start(**loose(kind=COLUMN)), add(0, **loose(side=1, pad=2)), add(1, **fixed(9, 9))]
        calls += [lay(50, 50), place(1), drop(2), lay(50, 50), place(1)]
        self.assertEqual([replies(*calls)[k] for k in (4, 7)], [(0, 0, 13, 13), (0, 0, 4, 4)])


class Boxes(unittest.TestCase):
    def test_a_row(self):
        inner = [add(1, **fixed(3, 4)), add(1, **fixed(5, 9)), add(1, **fixed(7, 6))]
        self.assertEqual(natural(sizes(kind=ROW), *inner), (15, 9))
        self.assertEqual(natural(sizes(kind=ROW, gap=10), *inner), (35, 9))
        self.assertEqual(natural(sizes(kind=ROW, pad=10), *inner), (35, 29))
        self.assertEqual(natural(sizes(kind=ROW, pad=10, gap=100), *inner), (235, 29))

    def test_a_column(self):
        inner = [add(1, **fixed(3, 4)), add(1, **fixed(7, 9)), add(1, **fixed(5, 6))]
        self.assertEqual(natural(sizes(kind=COLUMN), *inner), (7, 19))
        self.assertEqual(natural(sizes(kind=COLUMN, gap=10), *inner), (7, 39))
        self.assertEqual(natural(sizes(kind=COLUMN, pad=10), *inner), (27, 39))
        self.assertEqual(natural(sizes(kind=COLUMN, pad=10, gap=100), *inner), (27, 239))

    def test_one_box_has_no_gap(self):
        for kind in (ROW, COLUMN):
            with self.subTest(kind=kind):
                self.assertEqual(natural(sizes(kind=kind, gap=100, pad=1), add(1, **fixed(3, 4))), (5, 6))

    def test_boxes_of_no_size_have_gaps(self):
        inner = [add(1, **fixed(0, 0))] * 3
        self.assertEqual(natural(sizes(kind=ROW, gap=4), *inner), (8, 0))
        self.assertEqual(natural(sizes(kind=COLUMN, gap=4), *inner), (0, 8))

    def test_wish_content_and_most_each_deciding(self):
        inner = [add(1, **fixed(3, 4)), add(1, **fixed(5, 6))]
        self.assertEqual(natural(sizes(kind=ROW, wish=(7, 5)), *inner), (8, 6))
        self.assertEqual(natural(sizes(kind=ROW, wish=(9, 7)), *inner), (9, 7))
        self.assertEqual(natural(sizes(kind=ROW, wish=(2, 1), most=(7, 5)), *inner), (7, 5))
        self.assertEqual(natural(sizes(kind=COLUMN, wish=(4, 9)), *inner), (5, 10))
        self.assertEqual(natural(sizes(kind=COLUMN, wish=(6, 11)), *inner), (6, 11))
        self.assertEqual(natural(sizes(kind=COLUMN, wish=(2, 1), most=(4, 9)), *inner), (4, 9))

    def test_neither_least_nor_most_of_the_boxes_counts(self):
        inner = [add(1, **sizes(kind=LEAF, least=(1, 2), wish=(3, 4), most=(50, 60)))] * 2
        self.assertEqual(natural(sizes(kind=ROW), *inner), (6, 4))
        self.assertEqual(natural(sizes(kind=COLUMN), *inner), (3, 8))

    def test_weights_sides_and_rests_dont_count(self):
        inner = [add(1, **fixed(3, 4, side=k, rest=k, grow=k, give=k)) for k in range(4)]
        self.assertEqual(natural(sizes(kind=ROW, rest=3, grow=9, give=9), *inner), (12, 4))

    def test_64_in_one(self):
        self.assertEqual(natural(sizes(kind=ROW, gap=1), *[add(1, **fixed(3, 4))] * 64), (255, 4))

    def test_content_above_every_most(self):
        inner = [add(1, **fixed(65535, 65535))] * 64
        self.assertEqual(natural(sizes(kind=ROW, pad=255, gap=255), *inner), (65535, 65535))


class Deep(unittest.TestCase):
    def test_a_column_in_a_row(self):
        inner = [add(1, **loose(kind=COLUMN, pad=1, gap=2)), add(1, **fixed(10, 10)),
                 add(2, **fixed(3, 4)), add(2, **fixed(5, 6))]
        # Box 2 is 5 + 2 across, 4 + 6 + 2 + 2 down.
        self.assertEqual(natural(sizes(kind=ROW, gap=3, pad=4), *inner), (7 + 10 + 3 + 8, 14 + 8))

    def test_a_most_within_holds(self):
        inner = [add(1, **loose(kind=ROW, most_x=6, most_y=7)), add(2, **fixed(30, 40))]
        self.assertEqual(natural(sizes(kind=ROW), *inner), (6, 7))

    def test_a_wish_within_holds(self):
        inner = [add(1, **loose(kind=ROW, wish_x=60, wish_y=70)), add(2, **fixed(30, 40))]
        self.assertEqual(natural(sizes(kind=ROW), *inner), (60, 70))

    def test_sixteen_deep(self):
        inner = [add(number, **loose(kind=number % 2, pad=1)) for number in range(1, 14)] + [add(14, **fixed(3, 4))]
        self.assertEqual(natural(sizes(kind=ROW, pad=1), *inner), (31, 32))

    def test_numbers_given_again_lie_deeper_than_higher_ones(self):
        inner = [add(1, **loose()), add(1, **loose(pad=1)), drop(2), add(3, **fixed(5, 6))]
        self.assertEqual(natural(sizes(kind=ROW, pad=10), *inner), (27, 28))


if __name__ == "__main__":
    unittest.main()
