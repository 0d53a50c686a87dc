"""Promise 1: bx_start."""

import unittest

from dotboxes.rules import Rule
from helper import (GREATEST, LEAF, ROW, RULES_AS_TOLD, RULES_NOT_AS_TOLD, add, at, drop, lay, place, put, replies,
                    start, told)


class Start(unittest.TestCase):
    def test_a_rule_as_told_answers_0(self):
        for changes in RULES_AS_TOLD:
            with self.subTest(changes=changes):
                self.assertEqual(told(start(**changes)), [0])

    def test_a_rule_not_as_told_is_refused(self):
        for changes in RULES_NOT_AS_TOLD:
            with self.subTest(changes=changes):
                self.assertEqual(told(start(**changes)), [-22])

    def test_every_way_at_once_is_refused(self):
        self.assertEqual(told(start(least_x=11, kind=GREATEST, side=GREATEST, rest=GREATEST, none=GREATEST)), [-22])

    def test_refused_starts_may_come_before_the_first_that_is_not(self):
        self.assertEqual(told(start(kind=3), start(none=1), start(), add(0)), [-22, -22, 0, 1])

    def test_there_is_box_0_and_no_other(self):
        self.assertEqual(told(start(), put(0), put(1), drop(1), add(1)), [0, 0, -2, -2, -2])

    def test_box_0_has_the_rule(self):
        self.assertEqual(told(start(kind=ROW), add(0)), [0, 1])
        self.assertEqual(told(start(kind=LEAF), add(0)), [0, -13])

    def test_a_second_start_leaves_box_0_alone(self):
        calls = [start(), add(0), add(1), add(0), start(), drop(1), drop(2), drop(3), put(3), add(0), drop(1)]
        self.assertEqual(told(*calls), [0, 1, 2, 3, 0, -2, -2, -2, -2, 1, 1])

    def test_a_second_start_empties_box_0(self):
        self.assertEqual(told(start(), add(0), start(), put(0, kind=LEAF)), [0, 1, 0, 0])
        self.assertEqual(told(start(), *[add(0)] * 64, start(), add(0))[-2:], [0, 1])

    def test_a_second_start_gives_box_0_its_rule(self):
        self.assertEqual(told(start(), start(kind=LEAF), add(0)), [0, 0, -13])
        self.assertEqual(told(start(kind=LEAF), start(), add(0)), [0, 0, 1])

    def test_a_refused_second_start_leaves_all_as_it_was(self):
        for changes in RULES_NOT_AS_TOLD:
            with self.subTest(changes=changes):
                calls = [start(), add(0), add(1, kind=LEAF), start(**changes), add(2), add(1), drop(0), drop(3)]
                self.assertEqual(told(*calls), [0, 1, 2, -22, -13, 3, -13, 3])

    def test_a_refused_second_start_leaves_box_0_its_rule(self):
        self.assertEqual(told(start(kind=LEAF), start(none=1), add(0)), [0, -22, -13])
        self.assertEqual(told(start(), start(kind=LEAF, none=1), add(0)), [0, -22, 1])


class LaidOut(unittest.TestCase):
    def test_box_0_is_laid_out_in_a_window_of_0_by_0(self):
        self.assertEqual(replies(start(), place(0), at(0, 0), lay(0, 0)), [0, (0, 0, 0, 0), -2, 0])

    def test_an_added_box_is_not_laid_out(self):
        self.assertEqual(replies(start(), add(0), place(1)), [0, 1, -11])

    def test_each_number_of_a_rule_is_kept_under_its_name(self):
        kept = Rule(list(range(1, 15)))
        self.assertEqual((kept.least, kept.wish, kept.most), ((1, 2), (3, 4), (5, 6)))
        self.assertEqual((kept.kind, kept.pad, kept.gap, kept.grow, kept.give), (7, 8, 9, 10, 11))
        self.assertEqual((kept.side, kept.rest, kept.none), (12, 13, 14))


if __name__ == "__main__":
    unittest.main()
