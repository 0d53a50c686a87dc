"""Promise 5: bx_lay."""

import unittest

from helper import (COLUMN, GREATEST, LEAF, ROW, add, all_boxes, at, chain, drop, fixed, last, lay, loose, place,
                    places, put, replies, start, told)

TOO_LARGE = ((65536, 10), (10, 65536), (65536, 65536), (GREATEST, 10), (10, GREATEST), (GREATEST, GREATEST))


class Refusals(unittest.TestCase):
    def test_a_window_too_large(self):
        for width, height in TOO_LARGE:
            with self.subTest(width=width, height=height):
                self.assertEqual(told(start(), lay(width, height)), [0, -22])

    def test_a_window_as_large_as_may_be(self):
        for width, height in ((65535, 0), (0, 65535), (65535, 65535)):
            with self.subTest(width=width, height=height):
                self.assertEqual(replies(start(), lay(width, height), place(0)), [0, 1, (0, 0, width, height)])

    def test_a_refusal_changes_nothing(self):
        for width, height in TOO_LARGE:
            with self.subTest(width=width, height=height):
                calls = [start(**loose()), add(0, **fixed(4, 5)), lay(20, 30)]
                calls += [put(1, **fixed(6, 7)), add(0, **fixed(1, 1))]
                seen = [place(0), place(1), place(2), at(3, 4), at(4, 4)]
                expected = [(0, 0, 20, 30), (0, 0, 4, 5), -11, 1, 0]
                self.assertEqual(replies(*calls, *seen)[5:], expected)
                self.assertEqual(replies(*calls, lay(width, height), *seen)[5:], [-22] + expected)

    def test_a_refusal_is_not_counted_from(self):
        for width, height in TOO_LARGE:
            with self.subTest(width=width, height=height):
                calls = [start(**loose()), add(0), lay(9, 9), lay(width, height), lay(9, 9)]
                self.assertEqual(told(*calls)[2:], [2, -22, 0])


class Count(unittest.TestCase):
    def test_box_0_when_the_window_has_another_size(self):
        calls = [start(), lay(0, 0), lay(1, 0), lay(1, 0), lay(1, 1), lay(0, 1), lay(1, 0), lay(0, 0), lay(0, 0)]
        self.assertEqual(told(*calls)[1:], [0, 1, 0, 1, 1, 1, 1, 0])

    def test_new_boxes(self):
        calls = [start(), lay(9, 9), add(0), lay(9, 9), add(0), add(1), lay(9, 9)]
        self.assertEqual(told(*calls)[1:4], [1, 1, 1])
        # Box 1 has to make room beside its new neighbour.
        self.assertEqual(told(*calls)[-1], 3)

    def test_a_new_box_of_no_size_in_a_window_of_no_size(self):
        self.assertEqual(told(start(**loose()), add(0, **loose()), lay(0, 0), lay(0, 0)), [0, 1, 1, 0])

    def test_all_boxes_and_a_window(self):
        self.assertEqual(told(*all_boxes(), lay(300, 300), lay(300, 300))[-2:], [256, 0])
        self.assertEqual(told(*all_boxes(), lay(0, 0))[-1], 255)

    def test_boxes_that_stay(self):
        calls = [start(**loose()), add(0, **fixed(3, 3)), add(0, **fixed(4, 4)), lay(9, 9), lay(10, 9), lay(10, 10)]
        self.assertEqual(told(*calls)[3:], [3, 1, 1])

    def test_each_of_the_four_numbers_counts(self):
        first = [start(**loose(rest=2)), add(0, **fixed(3, 3, side=3)), lay(9, 9)]
        moved = {
            "x": (lay(10, 9), (7, 6, 3, 3), 2), "y": (lay(9, 10), (6, 7, 3, 3), 2),
            "how wide": (put(1, **fixed(3, 3, side=3, most_x=4, grow=1)), (5, 6, 4, 3), 1),
        }
        for name, (call, where, many) in moved.items():
            with self.subTest(name=name):
                calls = first + [call] + ([lay(9, 9)] if call[0] == 2 else [])
                self.assertEqual(replies(*calls, place(1))[-2:], [many, where])
        still = [start(**loose()), add(0, **fixed(3, 3)), lay(9, 9)]
        for width, height in ((4, 3), (3, 4)):
            with self.subTest(width=width, height=height):
                calls = still + [put(1, **fixed(width, height)), lay(9, 9), place(1), lay(9, 9)]
                self.assertEqual(replies(*calls)[-3:], [1, (0, 0, width, height), 0])

    def test_a_box_set_so_that_its_place_comes_out_the_same(self):
        first = [start(**loose()), add(0, **fixed(3, 3)), add(0, **fixed(5, 3, least_x=1, give=7)), lay(9, 9)]
        for changes in (fixed(3, 3, pad=9), fixed(3, 3, kind=COLUMN), fixed(3, 3, grow=9, give=9),
                        fixed(3, 3, side=1), fixed(3, 3, rest=3), fixed(3, 3, most_x=9)):
            with self.subTest(changes=changes):
                self.assertEqual(told(*first, put(1, **changes), lay(9, 9))[-2:], [0, 0])

    def test_a_rule_set_to_what_it_was(self):
        calls = [start(), add(0), add(1), lay(50, 50), put(0), put(1), put(2), lay(50, 50)]
        self.assertEqual(told(*calls)[3:], [3, 0, 0, 0, 0])

    def test_a_rule_set_to_another_and_back(self):
        calls = [start(**loose()), add(0, **fixed(3, 3)), lay(9, 9), put(1, **fixed(5, 5)), put(1, **fixed(3, 3))]
        self.assertEqual(told(*calls, lay(9, 9))[-1], 0)

    def test_one_set_box_moves_others(self):
        calls = [start(**loose())] + [add(0, **fixed(3, 3))] * 4 + [lay(50, 9), put(2, **fixed(4, 3)), lay(50, 9)]
        self.assertEqual(told(*calls)[-3:], [5, 0, 3])

    def test_laid_out_again_with_nothing_changed(self):
        for calls in (chain(16), all_boxes()):
            self.assertEqual(told(*calls, lay(70, 70), lay(70, 70), lay(70, 70))[-3:], [len(calls), 0, 0])

    def test_questions_and_refusals_change_nothing(self):
        between = [place(1), place(7), at(1, 1), at(-1, 0), add(7), add(0, none=1), put(1, kind=3), drop(0)]
        between += [start(side=4)]
        calls = [start(), add(0), add(1), lay(50, 50)] + between + [lay(50, 50)]
        self.assertEqual(last(*calls), 0)

    def test_a_dropped_box_is_not_counted(self):
        calls = [start(**loose())] + [add(0, **fixed(3, 3))] * 3 + [lay(9, 9), drop(3), lay(9, 9), drop(1), lay(9, 9)]
        self.assertEqual(told(*calls)[4:], [4, 3, 0, 2, 1])

    def test_a_box_that_got_a_dropped_ones_number_is_new(self):
        calls = [start(**loose()), add(0, **fixed(3, 3)), lay(9, 9), drop(1), add(0, **fixed(3, 3))]
        calls += [lay(9, 9), lay(9, 9)]
        self.assertEqual(told(*calls), [0, 1, 2, 1, 1, 1, 0])

    def test_it_is_counted_from_the_last_time(self):
        calls = [start(**loose(grow=1)), add(0, **loose(grow=1)), lay(9, 9), lay(20, 9), lay(9, 9), lay(9, 9)]
        self.assertEqual(told(*calls)[2:], [2, 2, 2, 0])

    def test_a_second_start_is_counted_from(self):
        self.assertEqual(told(start(), add(0), lay(9, 9), start(), lay(9, 9)), [0, 1, 2, 0, 1])
        self.assertEqual(told(start(), add(0), lay(9, 9), start(), lay(0, 0)), [0, 1, 2, 0, 0])

    def test_a_refused_second_start_is_not(self):
        self.assertEqual(told(start(), add(0), lay(9, 9), start(none=1), lay(9, 9)), [0, 1, 2, -22, 0])


class Window(unittest.TestCase):
    def test_box_0_has_the_windows_size_whatever_its_rule(self):
        for changes in (fixed(3, 4), fixed(0, 0), loose(pad=255), loose(wish_x=9, least_x=9), {}):
            with self.subTest(changes=changes):
                for width, height in ((0, 0), (1, 2), (500, 400)):
                    self.assertEqual(last(start(**changes), lay(width, height), place(0)), (0, 0, width, height))

    def test_set_to_another_kind_it_is_laid_out_by_that(self):
        calls = [start(**loose()), add(0, **fixed(3, 4)), add(0, **fixed(5, 6))]
        self.assertEqual(places(calls + [lay(20, 20)], (1, 2)), [(0, 0, 3, 4), (3, 0, 5, 6)])
        calls += [put(0, **loose(kind=COLUMN)), lay(20, 20)]
        self.assertEqual(places(calls, (1, 2)), [(0, 0, 3, 4), (0, 4, 5, 6)])
        calls += [put(0, **loose(kind=ROW)), lay(20, 20)]
        self.assertEqual(places(calls, (1, 2)), [(0, 0, 3, 4), (3, 0, 5, 6)])

    def test_a_leaf_alone(self):
        self.assertEqual(replies(start(kind=LEAF), lay(7, 8), place(0), at(6, 7)), [0, 1, (0, 0, 7, 8), 0])

    def test_boxes_stand_in_the_order_in_which_they_were_added(self):
        calls = [start(**loose())] + [add(0, **fixed(3, 3))] * 3 + [drop(1), add(0, **fixed(4, 3)), lay(20, 20)]
        self.assertEqual(places(calls, (2, 3, 1)), [(0, 0, 3, 3), (3, 0, 3, 3), (6, 0, 4, 3)])


if __name__ == "__main__":
    unittest.main()
