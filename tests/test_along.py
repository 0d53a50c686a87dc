"""Places along, in a row across and in a column down: what's left, shared out, and rest."""

import unittest

from helper import COLUMN, LEAF, ROW, add, fixed, lay, loose, places, shared, start


def spans(things, length, **outer):
    """Beginnings and lengths along of things (least, wish, most, grow, give) in box 0, in a row and in a column."""
    told = []
    for way, kind in enumerate((ROW, COLUMN)):
        calls = [start(**loose(kind=kind, **outer))]
        for least, wish, most, grow, give in things:
            letter = "_" + "xy"[way]
            bounds = {"least" + letter: least, "wish" + letter: wish, "most" + letter: most}
            calls.append(add(0, **loose(kind=LEAF, grow=grow, give=give, **bounds)))
        calls.append(lay(*((length, 9) if kind == ROW else (9, length))))
        told.append([(where[way], where[2 + way]) for where in places(calls, range(1, len(things) + 1))])
    if told[0] != told[1]:
        raise AssertionError(f"across {told[0]}, but down {told[1]}")
    return told[0]


def lengths(things, length, **outer):
    return [size for begin, size in spans(things, length, **outer)]


def stiff(*sizes):
    return [(size, size, size, 0, 0) for size in sizes]


class Wishes(unittest.TestCase):
    def test_equal_to_the_length(self):
        things = [(0, 3, 9, 1, 1), (2, 4, 9, 5, 5), (0, 5, 9, 0, 0)]
        self.assertEqual(spans(things, 12), [(0, 3), (3, 4), (7, 5)])

    def test_equal_to_the_length_less_gaps_and_pads(self):
        things = [(0, 3, 9, 1, 1), (2, 4, 9, 5, 5), (0, 5, 9, 0, 0)]
        self.assertEqual(spans(things, 12 + 2 * 7 + 2 * 10, gap=7, pad=10), [(10, 3), (20, 4), (31, 5)])

    def test_one_box(self):
        self.assertEqual(lengths([(2, 5, 9, 1, 1)], 5), [5])
        self.assertEqual(lengths([(2, 5, 9, 1, 1)], 6), [6])
        self.assertEqual(lengths([(2, 5, 9, 1, 1)], 4), [4])

    def test_the_natural_size_is_the_wish(self):
        calls = [start(**loose()), add(0, **loose(give=1)), add(1, **fixed(30, 1)), add(0, **loose(wish_x=10, give=1))]
        self.assertEqual(places(calls + [lay(40, 9)], (1, 3)), [(0, 0, 30, 9), (30, 0, 10, 9)])
        self.assertEqual(places(calls + [lay(30, 9)], (1, 3)), [(0, 0, 25, 9), (25, 0, 5, 9)])
        calls = [start(**loose(kind=COLUMN)), add(0, **loose(give=1)), add(1, **fixed(1, 30))]
        calls += [add(0, **loose(wish_y=10, give=1))]
        self.assertEqual(places(calls + [lay(9, 30)], (1, 3)), [(0, 0, 9, 25), (0, 25, 9, 5)])


class Growing(unittest.TestCase):
    def test_evenly(self):
        self.assertEqual(lengths([(0, 1, 99, 1, 0), (0, 2, 99, 1, 0), (0, 3, 99, 1, 0)], 12), [3, 4, 5])

    def test_by_weight(self):
        self.assertEqual(lengths([(0, 1, 99, 1, 9), (0, 2, 99, 2, 9), (0, 3, 99, 3, 9)], 12), [2, 4, 6])

    def test_edges_are_rounded_down(self):
        three = [(0, 0, 99, 1, 0)] * 3
        self.assertEqual([lengths(three, length) for length in range(8)],
                         [[0, 0, 0], [0, 0, 1], [0, 1, 1], [1, 1, 1], [1, 1, 2], [1, 2, 2], [2, 2, 2], [2, 2, 3]])

    def test_weights_of_1_and_255(self):
        things = [(0, 0, 65535, 1, 0), (0, 0, 65535, 255, 0)]
        self.assertEqual([lengths(things, length) for length in (1, 255, 256, 511, 512)],
                         [[0, 1], [0, 255], [1, 255], [1, 510], [2, 510]])
        self.assertEqual([lengths(things[::-1], length) for length in (1, 255, 256, 257)],
                         [[0, 1], [254, 1], [255, 1], [255, 2]])

    def test_grow_0_keeps_its_wish(self):
        self.assertEqual(lengths([(0, 3, 99, 0, 9), (0, 3, 99, 1, 0), (0, 3, 99, 0, 9)], 20), [3, 14, 3])

    def test_all_grow_0(self):
        self.assertEqual(spans([(0, 3, 99, 0, 9)] * 3, 20), [(0, 3), (3, 3), (6, 3)])

    def test_give_doesnt_count(self):
        self.assertEqual(lengths([(0, 3, 99, 1, 0), (0, 3, 99, 1, 255)], 20), [10, 10])

    def test_one_that_is_full_while_others_grow(self):
        things = [(0, 1, 2, 1, 0), (0, 1, 99, 1, 0), (0, 1, 99, 2, 0)]
        self.assertEqual([lengths(things, length) for length in (3, 7, 8, 11)],
                         [[1, 1, 1], [2, 2, 3], [2, 2, 4], [2, 3, 6]])
        self.assertEqual(lengths(things, 7), shared(things, 7))

    def test_one_after_another_is_full(self):
        things = [(0, 0, 2 ** k, 1, 0) for k in range(7)]
        self.assertEqual(lengths(things, 127), [1, 2, 4, 8, 16, 32, 64])
        self.assertEqual(lengths(things, 128), [1, 2, 4, 8, 16, 32, 64])
        self.assertEqual(lengths(things, 126), [1, 2, 4, 8, 16, 32, 63])
        self.assertEqual(lengths(things, 95), [1, 2, 4, 8, 16, 32, 32])
        self.assertEqual(lengths(things, 93), [1, 2, 4, 8, 16, 31, 31])
        self.assertEqual(lengths(things, 3), shared(things, 3))

    def test_full_by_its_weight_before_a_shorter_one(self):
        # The first has 20 more to take, the second 10, but the first takes them ten times as fast.
        self.assertEqual(lengths([(0, 0, 20, 10, 0), (0, 0, 10, 1, 0)], 24), [20, 4])

    def test_a_most_that_is_the_wish(self):
        self.assertEqual(lengths([(0, 4, 4, 255, 0), (0, 4, 99, 1, 0)], 20), [4, 16])
        self.assertEqual(lengths([(0, 0, 0, 255, 0), (0, 4, 99, 1, 0)], 20), [0, 20])

    def test_what_cant_be_filled(self):
        things = [(0, 1, 5, 1, 0), (0, 2, 6, 9, 0), (0, 3, 99, 0, 0)]
        self.assertEqual(lengths(things, 14), [5, 6, 3])
        self.assertEqual(lengths(things, 15), [5, 6, 3])
        self.assertEqual(lengths(things, 65535), [5, 6, 3])
        self.assertEqual(sum(lengths(things, 13)), 13)

    def test_to_the_greatest(self):
        things = [(0, 0, 65535, 255, 255)] * 64
        self.assertEqual(sum(lengths(things, 65535)), 65535)
        self.assertEqual(lengths(things, 65535), shared(things, 65535))


class Giving(unittest.TestCase):
    def test_evenly(self):
        self.assertEqual(lengths([(0, 5, 99, 0, 1), (0, 6, 99, 0, 1), (0, 7, 99, 0, 1)], 12), [3, 4, 5])

    def test_by_weight(self):
        self.assertEqual(lengths([(0, 9, 99, 9, 1), (0, 9, 99, 9, 2), (0, 9, 99, 9, 3)], 21), [8, 7, 6])

    def test_edges_are_rounded_down(self):
        three = [(0, 2, 99, 0, 1)] * 3
        self.assertEqual([lengths(three, length) for length in range(7)],
                         [[0, 0, 0], [0, 0, 1], [0, 1, 1], [1, 1, 1], [1, 1, 2], [1, 2, 2], [2, 2, 2]])

    def test_too_short_by_one_dot(self):
        self.assertEqual(lengths([(0, 5, 99, 0, 1)] * 3, 14), [4, 5, 5])
        self.assertEqual(lengths([(5, 5, 99, 0, 1), (0, 5, 99, 0, 1), (5, 5, 99, 0, 1)], 14), [5, 4, 5])
        self.assertEqual(lengths([(0, 5, 99, 0, 0), (0, 5, 99, 0, 1), (0, 5, 99, 0, 0)], 14), [5, 4, 5])
        self.assertEqual(lengths([(0, 5, 99, 0, 0)] * 3, 14), [5, 5, 5])

    def test_weights_of_1_and_255(self):
        things = [(0, 512, 999, 0, 1), (0, 512, 999, 0, 255)]
        self.assertEqual([lengths(things, length) for length in (1024, 1023, 768, 767)],
                         [[512, 512], [511, 512], [511, 257], [510, 257]])

    def test_give_0_keeps_its_wish(self):
        self.assertEqual(lengths([(0, 9, 99, 9, 0), (0, 9, 99, 0, 1), (0, 9, 99, 9, 0)], 20), [9, 2, 9])

    def test_grow_doesnt_count(self):
        self.assertEqual(lengths([(0, 9, 99, 0, 1), (0, 9, 99, 255, 1)], 8), [4, 4])

    def test_one_at_its_least_while_others_give(self):
        things = [(8, 9, 99, 0, 1), (0, 9, 99, 0, 1), (0, 9, 99, 0, 2)]
        self.assertEqual([lengths(things, length) for length in (27, 23, 20, 17)],
                         [[9, 9, 9], [8, 8, 7], [8, 7, 5], [8, 6, 3]])

    def test_one_after_another_is_at_its_least(self):
        things = [(64 - 2 ** k, 64, 64, 0, 1) for k in range(7)]
        self.assertEqual(lengths(things, 7 * 64 - 127), [63, 62, 60, 56, 48, 32, 0])
        self.assertEqual(lengths(things, 7 * 64 - 126), [63, 62, 60, 56, 48, 32, 1])
        self.assertEqual(lengths(things, 7 * 64 - 93), [63, 62, 60, 56, 48, 33, 33])
        self.assertEqual(lengths(things, 7 * 64 - 10), shared(things, 7 * 64 - 10))

    def test_a_least_that_is_the_wish(self):
        self.assertEqual(lengths([(9, 9, 99, 0, 255), (0, 9, 99, 0, 1)], 12), [9, 3])

    def test_what_cant_be_made_so_short(self):
        things = [(3, 5, 9, 0, 1), (2, 6, 9, 0, 9), (0, 7, 9, 0, 0)]
        self.assertEqual(spans(things, 12), [(0, 3), (3, 2), (5, 7)])
        self.assertEqual(spans(things, 11), [(0, 3), (3, 2), (5, 7)])
        self.assertEqual(spans(things, 0), [(0, 3), (3, 2), (5, 7)])
        self.assertEqual(sum(lengths(things, 13)), 13)

    def test_a_length_of_0(self):
        self.assertEqual(spans([(0, 5, 9, 1, 1), (0, 0, 9, 1, 1), (0, 7, 9, 1, 255)], 0), [(0, 0)] * 3)
        self.assertEqual(spans([(0, 0, 9, 1, 1)] * 2, 0), [(0, 0)] * 2)


class Room(unittest.TestCase):
    def test_no_boxes(self):
        for kind in (ROW, COLUMN):
            self.assertEqual(places([start(**loose(kind=kind, gap=9, pad=9)), lay(5, 5)], (0,)), [(0, 0, 5, 5)])

    def test_gaps(self):
        self.assertEqual(spans([(0, 0, 99, 1, 0)] * 3, 20, gap=4), [(0, 4), (8, 4), (16, 4)])

    def test_pad(self):
        self.assertEqual(spans([(0, 0, 99, 1, 0)] * 2, 20, pad=3), [(3, 7), (10, 7)])

    def test_gaps_as_wide_as_the_room(self):
        self.assertEqual(spans([(0, 3, 9, 1, 1)] * 3, 8, gap=4), [(0, 0), (4, 0), (8, 0)])

    def test_gaps_wider_than_the_room(self):
        self.assertEqual(spans([(0, 3, 9, 1, 1)] * 3, 7, gap=4), [(0, 0), (4, 0), (8, 0)])
        self.assertEqual(spans([(1, 3, 9, 1, 1)] * 3, 0, gap=255), [(0, 1), (256, 1), (512, 1)])

    def test_a_pad_wider_than_the_box(self):
        self.assertEqual(spans([(0, 3, 9, 1, 1), (2, 3, 9, 1, 1)], 5, pad=3), [(3, 0), (3, 2)])
        self.assertEqual(spans([(0, 3, 9, 1, 1), (2, 3, 9, 1, 1)], 6, pad=3), [(3, 0), (3, 2)])
        self.assertEqual(spans([(0, 3, 9, 1, 1), (2, 3, 9, 1, 1)], 9, pad=3), [(3, 1), (4, 2)])
        self.assertEqual(spans([(0, 3, 9, 1, 1)], 0, pad=255), [(255, 0)])

    def test_a_most_of_0(self):
        things = [(0, 0, 0, 255, 255), (0, 2, 9, 1, 1), (0, 0, 0, 1, 1)]
        self.assertEqual(spans(things, 9, gap=1), [(0, 0), (1, 7), (9, 0)])

    def test_64_in_one(self):
        self.assertEqual(spans([(0, 0, 9, 1, 1)] * 64, 64 + 63 * 2, gap=2), [(3 * k, 1) for k in range(64)])
        self.assertEqual(spans(stiff(*range(64)), 9), [(k * (k - 1) // 2, k) for k in range(64)])

    def test_each_begins_where_the_box_around_it_begins(self):
        calls = [start(**loose(pad=10)), add(0, **fixed(20, 20)), add(0, **fixed(20, 20, kind=ROW, pad=3, gap=1))]
        calls += [add(2, **fixed(2, 2)), add(2, **fixed(2, 2, kind=COLUMN)), add(4, **fixed(1, 1)), lay(90, 90)]
        self.assertEqual(places(calls, (2, 3, 4, 5)),
                         [(30, 10, 20, 20), (33, 13, 2, 2), (36, 13, 2, 2), (36, 13, 1, 1)])

    def test_sixteen_deep(self):
        calls = [start(**loose(pad=1, kind=ROW))]
        calls += [add(number, **loose(pad=1, kind=number % 2, grow=1)) for number in range(15)] + [lay(50, 40)]
        self.assertEqual(places(calls, range(16)), [(k, k, 50 - 2 * k, 40 - 2 * k) for k in range(16)])


class Rest(unittest.TestCase):
    def begins(self, rest, sizes, length, **outer):
        told = spans(stiff(*sizes), length, rest=rest, **outer)
        self.assertEqual([size for begin, size in told], list(sizes))
        return [begin for begin, size in told]

    def test_with_something_over(self):
        self.assertEqual(self.begins(0, (2, 3, 4), 19), [0, 2, 5])
        self.assertEqual(self.begins(1, (2, 3, 4), 19), [5, 7, 10])
        self.assertEqual(self.begins(2, (2, 3, 4), 19), [10, 12, 15])
        self.assertEqual(self.begins(3, (2, 3, 4), 19), [0, 7, 15])

    def test_with_an_odd_number_over(self):
        self.assertEqual(self.begins(0, (2, 3, 4), 20), [0, 2, 5])
        self.assertEqual(self.begins(1, (2, 3, 4), 20), [5, 7, 10])
        self.assertEqual(self.begins(2, (2, 3, 4), 20), [11, 13, 16])
        self.assertEqual(self.begins(3, (2, 3, 4), 20), [0, 7, 16])

    def test_with_1_over(self):
        self.assertEqual([self.begins(rest, (2, 3, 4), 10) for rest in range(4)],
                         [[0, 2, 5], [0, 2, 5], [1, 3, 6], [0, 2, 6]])

    def test_with_nothing_over(self):
        for rest in range(4):
            with self.subTest(rest=rest):
                self.assertEqual(self.begins(rest, (2, 3, 4), 9), [0, 2, 5])
                self.assertEqual(spans([(0, 2, 99, 1, 0), (0, 3, 99, 0, 0)], 99, rest=rest), [(0, 96), (96, 3)])

    def test_with_too_little(self):
        for rest in range(4):
            with self.subTest(rest=rest):
                self.assertEqual(self.begins(rest, (2, 3, 4), 8), [0, 2, 5])
                self.assertEqual(self.begins(rest, (2, 3, 4), 0), [0, 2, 5])

    def test_with_gaps_and_pad(self):
        outer = {"gap": 5, "pad": 7}
        length = 9 + 10 + 14 + 11
        self.assertEqual([self.begins(rest, (2, 3, 4), length, **outer) for rest in range(4)],
                         [[7, 14, 22], [12, 19, 27], [18, 25, 33], [7, 19, 33]])

    def test_with_gaps_wider_than_the_room(self):
        for rest in range(4):
            with self.subTest(rest=rest):
                self.assertEqual(self.begins(rest, (0, 0, 0), 5, gap=3), [0, 3, 6])

    def test_one_box(self):
        self.assertEqual([self.begins(rest, (4,), 11) for rest in range(4)], [[0], [3], [7], [0]])

    def test_two_boxes(self):
        self.assertEqual([self.begins(rest, (4, 2), 13) for rest in range(4)], [[0, 4], [3, 7], [7, 11], [0, 11]])

    def test_many_boxes(self):
        self.assertEqual(self.begins(3, [1] * 64, 64 + 62), [k + k * 62 // 63 for k in range(64)])
        self.assertEqual(self.begins(3, [1] * 5, 5 + 6), [0, 2, 5, 7, 10])
        self.assertEqual(self.begins(1, [1] * 64, 64 + 7), [k + 3 for k in range(64)])
        self.assertEqual(self.begins(2, [1] * 64, 64 + 7), [k + 7 for k in range(64)])

    def test_over_behind_those_that_are_full(self):
        things = [(0, 1, 5, 1, 0), (0, 2, 6, 9, 0)]
        self.assertEqual(spans(things, 14, rest=3), [(0, 5), (8, 6)])
        self.assertEqual(spans(things, 14, rest=1), [(1, 5), (6, 6)])

    def test_it_is_that_of_the_box_around(self):
        calls = [start(**loose(rest=2)), add(0, **fixed(3, 3, rest=0)), add(0, **fixed(3, 3, rest=1)), lay(10, 10)]
        self.assertEqual(places(calls, (1, 2)), [(4, 0, 3, 3), (7, 0, 3, 3)])


if __name__ == "__main__":
    unittest.main()
