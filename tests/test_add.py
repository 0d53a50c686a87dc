"""Promise 2: bx_add."""

import unittest

from helper import (COLUMN, GREATEST, LEAF, RULES_AS_TOLD, RULES_NOT_AS_TOLD, add, all_boxes, chain, drop,
                    first_difference, fixed, full_box, last, lay, loose, places, put, start, told)


class Refusals(unittest.TestCase):
    def test_no_box_in(self):
        for into in (1, 255, 256, 65536, GREATEST):
            with self.subTest(into=into):
                self.assertEqual(told(start(), add(into)), [0, -2])

    def test_a_box_that_was_dropped_is_no_box(self):
        self.assertEqual(told(start(), add(0), drop(1), add(1)), [0, 1, 1, -2])

    def test_a_rule_not_as_told(self):
        for changes in RULES_NOT_AS_TOLD:
            with self.subTest(changes=changes):
                self.assertEqual(told(start(), add(0, **changes), add(0)), [0, -22, 1])

    def test_a_rule_as_told(self):
        for changes in RULES_AS_TOLD:
            with self.subTest(changes=changes):
                self.assertEqual(told(start(), add(0, **changes)), [0, 1])

    def test_box_in_is_a_leaf(self):
        self.assertEqual(told(start(kind=LEAF), add(0)), [0, -13])
        self.assertEqual(told(start(), add(0, kind=LEAF), add(1), add(1, kind=LEAF)), [0, 1, -13, -13])

    def test_box_in_may_be_a_column(self):
        self.assertEqual(told(start(kind=COLUMN), add(0, kind=COLUMN), add(1)), [0, 1, 2])

    def test_the_65th_box_in_one(self):
        self.assertEqual(told(*full_box()), list(range(65)))
        self.assertEqual(told(*full_box(), add(0), add(1), add(0))[-3:], [-28, 65, -28])

    def test_the_65th_box_in_one_that_is_not_box_0(self):
        calls = [start(), add(0)] + [add(1)] * 64 + [add(1), add(0)]
        self.assertEqual(told(*calls)[-3:], [65, -28, 66])

    def test_a_dropped_box_makes_space_in_one(self):
        self.assertEqual(told(*full_box(), drop(64), add(0), add(0))[-3:], [64, 64, -28])

    def test_a_box_17_deep(self):
        self.assertEqual(told(*chain(16)), list(range(16)))
        self.assertEqual(told(*chain(16), add(15), add(14), add(15))[-3:], [-28, 16, -28])

    def test_another_box_16_deep_holds_none_either(self):
        self.assertEqual(told(*chain(16), add(14), add(16))[-2:], [16, -28])

    def test_the_257th_box(self):
        self.assertIsNone(first_difference(all_boxes(), list(range(256))))
        self.assertEqual(told(*all_boxes(), add(3), add(4))[-2:], [-28, -28])

    def test_a_dropped_box_makes_space_for_one(self):
        self.assertEqual(told(*all_boxes(), drop(200), add(4), add(4))[-3:], [255, 200, -28])

    def test_a_refusal_changes_nothing(self):
        self.assertEqual(told(*full_box(), add(0), drop(64), add(1))[-3:], [-28, 64, 64])
        self.assertEqual(told(*chain(16), add(15), drop(15))[-2:], [-28, 15])
        self.assertEqual(told(*all_boxes(), add(4), drop(4))[-2:], [-28, 255])
        self.assertEqual(told(start(), add(0, kind=LEAF), add(1), drop(1))[-2:], [-13, 1])
        self.assertEqual(told(start(), add(0), add(1, none=1), drop(1))[-2:], [-22, 1])
        self.assertEqual(told(start(), add(7), add(0), drop(1))[-3:], [-2, 1, 1])


class Order(unittest.TestCase):
    def test_no_box_before_a_rule_not_as_told(self):
        for changes in RULES_NOT_AS_TOLD:
            with self.subTest(changes=changes):
                self.assertEqual(last(start(), add(1, **changes)), -2)

    def test_no_box_before_no_space(self):
        self.assertEqual(last(*all_boxes(), add(256)), -2)
        self.assertEqual(last(*all_boxes(), add(GREATEST, none=GREATEST)), -2)

    def test_a_rule_not_as_told_before_a_leaf(self):
        for changes in RULES_NOT_AS_TOLD:
            with self.subTest(changes=changes):
                self.assertEqual(last(start(kind=LEAF), add(0, **changes)), -22)

    def test_a_rule_not_as_told_before_no_space(self):
        self.assertEqual(last(*full_box(), add(0, side=4)), -22)
        self.assertEqual(last(*chain(16), add(15, side=4)), -22)
        self.assertEqual(last(*all_boxes(), add(4, side=4)), -22)
        self.assertEqual(last(*all_boxes(), add(5, side=4)), -22)

    def test_a_leaf_before_no_space(self):
        self.assertEqual(last(*chain(16), put(15, kind=LEAF), add(15)), -13)
        self.assertEqual(last(*all_boxes(), add(5)), -13)


class Numbers(unittest.TestCase):
    def test_the_least_number_that_no_box_has(self):
        calls = [start(), add(0), add(0), add(0), add(0), drop(3), drop(1), add(0), add(0), add(0)]
        self.assertEqual(told(*calls), [0, 1, 2, 3, 4, 4, 3, 1, 3, 5])

    def test_the_last_number_given_is_given_again(self):
        self.assertEqual(told(start(), add(0), drop(1), add(0), drop(1), add(0)), [0, 1, 1, 1, 1, 1])

    def test_a_number_given_again_is_another_box(self):
        calls = [start(), add(0), add(0, kind=LEAF), drop(2), add(1), add(2), add(2), drop(2)]
        self.assertEqual(told(*calls), [0, 1, 2, 2, 2, 3, 4, -13])

    def test_a_number_given_again_lies_where_the_new_box_lies(self):
        calls = [start(), add(0), add(0), drop(2), add(1), drop(1), drop(2), drop(1)]
        self.assertEqual(told(*calls), [0, 1, 2, 2, 2, -13, 2, 1])

    def test_a_number_given_again_is_as_deep_as_the_new_box(self):
        calls = chain(16) + [drop(15), add(0), add(15), add(14), add(17)]
        self.assertEqual(told(*calls)[-5:], [15, 15, 16, 17, -28])

    def test_a_new_box_is_the_last_in_there(self):
        calls = [start(**loose())] + [add(0, **fixed(5, 5))] * 3 + [drop(1), add(0, **fixed(5, 5)), lay(20, 20)]
        self.assertEqual(places(calls, (2, 3, 1)), [(0, 0, 5, 5), (5, 0, 5, 5), (10, 0, 5, 5)])


if __name__ == "__main__":
    unittest.main()
