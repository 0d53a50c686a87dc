"""Promise 3: bx_set."""

import unittest

from dotboxes.boxes import Boxes
from dotboxes.rules import Rule
from helper import COLUMN, GREATEST, LEAF, ROW, RULES_AS_TOLD, RULES_NOT_AS_TOLD, add, drop, put, rule, start, told


class Refusals(unittest.TestCase):
    def test_no_box_i(self):
        for i in (1, 255, 256, GREATEST):
            with self.subTest(i=i):
                self.assertEqual(told(start(), put(i)), [0, -2])

    def test_a_box_that_was_dropped_is_no_box(self):
        self.assertEqual(told(start(), add(0), drop(1), put(1)), [0, 1, 1, -2])

    def test_a_rule_not_as_told(self):
        for changes in RULES_NOT_AS_TOLD:
            with self.subTest(changes=changes):
                self.assertEqual(told(start(), add(0), put(0, **changes), put(1, **changes)), [0, 1, -22, -22])

    def test_a_rule_as_told(self):
        for changes in RULES_AS_TOLD:
            with self.subTest(changes=changes):
                self.assertEqual(told(start(), put(0, **changes)), [0, 0])
                self.assertEqual(told(start(), add(0), put(1, **changes)), [0, 1, 0])

    def test_a_leaf_for_a_box_that_has_boxes(self):
        self.assertEqual(told(start(), add(0), put(0, kind=LEAF)), [0, 1, -13])
        self.assertEqual(told(start(), add(0), add(1), put(1, kind=LEAF)), [0, 1, 2, -13])

    def test_a_leaf_for_a_box_that_has_none(self):
        self.assertEqual(told(start(), put(0, kind=LEAF)), [0, 0])
        self.assertEqual(told(start(), add(0), put(1, kind=LEAF)), [0, 1, 0])

    def test_a_leaf_for_a_box_that_has_none_any_more(self):
        calls = [start(), add(0), add(0), drop(2), put(0, kind=LEAF), drop(1), put(0, kind=LEAF), add(0)]
        self.assertEqual(told(*calls), [0, 1, 2, 2, -13, 1, 0, -13])

    def test_a_leaf_for_a_leaf(self):
        self.assertEqual(told(start(kind=LEAF), put(0, kind=LEAF, pad=9)), [0, 0])

    def test_a_refusal_changes_nothing(self):
        self.assertEqual(told(start(kind=LEAF), put(0, kind=ROW, none=1), add(0)), [0, -22, -13])
        self.assertEqual(told(start(), put(0, kind=LEAF, side=4), add(0)), [0, -22, 1])
        self.assertEqual(told(start(), add(0), put(0, kind=LEAF), add(0)), [0, 1, -13, 2])
        self.assertEqual(told(start(), put(1), add(0)), [0, -2, 1])


class Order(unittest.TestCase):
    def test_no_box_before_a_rule_not_as_told(self):
        for changes in RULES_NOT_AS_TOLD:
            with self.subTest(changes=changes):
                self.assertEqual(told(start(), put(1, **changes)), [0, -2])

    def test_no_box_before_a_leaf(self):
        self.assertEqual(told(start(), add(0), put(2, kind=LEAF)), [0, 1, -2])

    def test_a_rule_not_as_told_before_a_leaf(self):
        for changes in RULES_NOT_AS_TOLD:
            with self.subTest(changes=changes):
                told_leaf = {"kind": LEAF} | changes
                self.assertEqual(told(start(), add(0), put(0, **told_leaf)), [0, 1, -22])


class Changed(unittest.TestCase):
    def test_a_rule_set_to_what_it_was(self):
        self.assertEqual(told(start(), add(0), put(0), put(1), put(1), add(1)), [0, 1, 0, 0, 0, 2])

    def test_a_row_or_column_set_to_a_leaf(self):
        for kind in (ROW, COLUMN):
            with self.subTest(kind=kind):
                calls = [start(), add(0, kind=kind), put(1, kind=LEAF), add(1), add(0)]
                self.assertEqual(told(*calls), [0, 1, 0, -13, 2])
                self.assertEqual(told(start(kind=kind), put(0, kind=LEAF), add(0)), [0, 0, -13])

    def test_a_leaf_set_to_a_row_or_column(self):
        for kind in (ROW, COLUMN):
            with self.subTest(kind=kind):
                calls = [start(), add(0, kind=LEAF), add(1), put(1, kind=kind), add(1)]
                self.assertEqual(told(*calls), [0, 1, -13, 0, 2])

    def test_a_row_with_boxes_set_to_a_column_and_back_keeps_them(self):
        calls = [start(), add(0), put(0, kind=COLUMN), drop(0), put(0, kind=ROW), add(0), drop(1), drop(2)]
        self.assertEqual(told(*calls), [0, 1, 0, -13, 0, 2, 2, 1])

    def test_only_box_i_is_set(self):
        calls = [start(), add(0), add(0), put(1, kind=LEAF), add(1), add(2), add(0)]
        self.assertEqual(told(*calls), [0, 1, 2, 0, -13, 3, 4])

    def test_a_set_box_lies_where_it_lay(self):
        calls = [start(), add(0), add(1), put(2, pad=7), drop(1), drop(2), drop(1)]
        self.assertEqual(told(*calls), [0, 1, 2, 0, -13, 2, 1])

    def test_the_new_rule_is_kept_whole(self):
        # Some of its numbers show in places only together with others, so the object itself is asked.
        boxes = Boxes()
        boxes.bx_start(Rule(rule()))
        numbers = [11, 12, 13, 14, 15, 16, 1, 17, 18, 19, 20, 2, 3, 0]
        self.assertEqual(boxes.bx_set(0, Rule(numbers)), 0)
        self.assertEqual(vars(boxes.by_number[0].rule), vars(Rule(numbers)))


if __name__ == "__main__":
    unittest.main()
