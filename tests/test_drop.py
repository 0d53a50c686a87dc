"""Promise 4: bx_drop."""

import unittest

from helper import GREATEST, LEAF, add, all_boxes, chain, drop, fixed, lay, loose, places, put, start, told


class Refusals(unittest.TestCase):
    def test_no_box_i(self):
        for i in (1, 255, 256, GREATEST):
            with self.subTest(i=i):
                self.assertEqual(told(start(), drop(i)), [0, -2])

    def test_no_box_i_beside_others(self):
        self.assertEqual(told(*all_boxes(), drop(256), drop(GREATEST))[-2:], [-2, -2])

    def test_box_0(self):
        self.assertEqual(told(start(), drop(0)), [0, -13])
        self.assertEqual(told(start(kind=LEAF), drop(0)), [0, -13])
        self.assertEqual(told(start(), add(0), drop(0)), [0, 1, -13])
        self.assertEqual(told(start(), add(0), drop(1), drop(0)), [0, 1, 1, -13])

    def test_a_box_that_has_boxes(self):
        self.assertEqual(told(start(), add(0), add(1), drop(1)), [0, 1, 2, -13])

    def test_a_refusal_changes_nothing(self):
        self.assertEqual(told(start(), drop(0), add(0)), [0, -13, 1])
        self.assertEqual(told(start(), add(0), add(1), drop(1), add(1), add(2)), [0, 1, 2, -13, 3, 4])
        self.assertEqual(told(start(), add(0), drop(5), drop(1)), [0, 1, -2, 1])


class Dropped(unittest.TestCase):
    def test_how_many_there_are_afterwards(self):
        calls = [start(), add(0), add(0), add(0), drop(2), drop(3), drop(1)]
        self.assertEqual(told(*calls), [0, 1, 2, 3, 3, 2, 1])

    def test_how_many_of_all(self):
        self.assertEqual(told(*all_boxes(), drop(255), drop(100))[-2:], [255, 254])

    def test_a_leaf_is_dropped(self):
        self.assertEqual(told(start(), add(0, kind=LEAF), drop(1)), [0, 1, 1])

    def test_a_dropped_number_is_no_box_any_more(self):
        calls = [start(), add(0), drop(1), drop(1), put(1), add(1), put(1, none=1)]
        self.assertEqual(told(*calls), [0, 1, 1, -2, -2, -2, -2])

    def test_a_box_that_has_none_any_more_is_dropped(self):
        calls = [start(), add(0), add(1), add(1), drop(2), drop(1), drop(3), drop(1)]
        self.assertEqual(told(*calls), [0, 1, 2, 3, 3, -13, 2, 1])

    def test_sixteen_deep_from_within(self):
        calls = chain(16) + [drop(number) for number in range(15, 0, -1)]
        self.assertEqual(told(*calls)[16:], list(range(15, 0, -1)))

    def test_sixteen_deep_from_without(self):
        calls = chain(16) + [drop(number) for number in range(15)]
        self.assertEqual(told(*calls)[16:], [-13] * 15)

    def test_the_others_keep_their_numbers_and_order(self):
        calls = [start(**loose())] + [add(0, **fixed(5, 5))] * 4 + [drop(2), lay(20, 20)]
        self.assertEqual(places(calls, (1, 2, 3, 4)), [(0, 0, 5, 5), -2, (5, 0, 5, 5), (10, 0, 5, 5)])


if __name__ == "__main__":
    unittest.main()
