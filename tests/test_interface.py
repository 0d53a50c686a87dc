"""The interface: one list of whole numbers in, one list of whole numbers out."""

import contextlib
import io
import unittest

from dotboxes.layer import answers
from helper import (GREATEST, LEAF, add, all_boxes, at, drop, first_difference, joined, lay, loose, place, put, replies,
                    start, told)


def refuse(self, *given):
    raise AssertionError("what is handed in is changed")


class Unchanging(list):
    """A list that tells when it is changed, be it for a while alone."""

    __setitem__ = __delitem__ = __iadd__ = __imul__ = refuse
    append = clear = extend = insert = pop = remove = reverse = sort = refuse


MIXED = [
    start(none=1), start(), add(0), add(1, kind=LEAF), add(2), add(9), put(1, kind=LEAF), put(2, pad=3),
    put(2, rest=4), drop(1), lay(40, 30), place(2), at(5, 5), lay(65536, 30), drop(2), drop(2), place(2), at(5, 5),
    at(-1, 5), add(0), place(2), lay(40, 30), start(), add(0), place(0), place(1), at(0, 0), lay(0, 0),
]
MIXED_TOLD = [
    -22, 0, 1, 2, -13, -2, -13, 0, -22, -13, 3, (2, 2, 36, 26), 2, -22, 2, -2, -2, 1, -2, 2, -11, 2, 0, 1,
    (0, 0, 0, 0), -11, -2, 1,
]


def in_numbers(answer):
    return [2, 0, answer] if isinstance(answer, int) else [5, 1, *answer]


class Form(unittest.TestCase):
    def test_one_call(self):
        self.assertEqual(answers(start()), [2, 0, 0])

    def test_one_refused_call(self):
        self.assertEqual(answers(start(kind=GREATEST)), [2, 0, -22])

    def test_several_calls(self):
        self.assertEqual(answers(joined(MIXED)), joined([in_numbers(answer) for answer in MIXED_TOLD]))

    def test_written_out(self):
        calls = [0, 0, 0, 1, 2, 3, 4, 1, 5, 6, 7, 8, 3, 3, 0]
        calls += [1, 0, 9, 9, 9, 9, 9, 9, 2, 0, 0, 0, 0, 0, 0, 0]
        calls += [2, 1, 9, 9, 9, 9, 8, 9, 2, 0, 0, 0, 0, 0, 0, 0]
        calls += [5, 1, 4, 50, 40, 5, 1, 5, 0, 6, 5, 5, 6, -9223372036854775808, 5]
        calls += [3, 1, 3, 1, 5, 1, 4, 9223372036854775807, 1]
        self.assertEqual(answers(calls), [
            2, 0, 0, 2, 0, 1, 2, 0, -22, 2, 0, -11, 2, 0, 2, 5, 1, 5, 5, 9, 9, 5, 1, 0, 0, 50, 40, 2, 0, 1, 2, 0, -2,
            2, 0, 1, 2, 0, -2, 2, 0, -2, 2, 0, -22])

    def test_whole_numbers_in_a_list(self):
        out = answers(joined(MIXED))
        self.assertIs(type(out), list)
        self.assertEqual({type(number) for number in out}, {int})

    def test_a_prefix_of_the_calls_answers_a_prefix(self):
        for many in range(1, len(MIXED) + 1):
            with self.subTest(many=many):
                self.assertEqual(replies(*MIXED[:many]), MIXED_TOLD[:many])


class HandedIn(unittest.TestCase):
    def test_it_stays_as_it_was(self):
        calls = joined(MIXED)
        before = list(calls)
        answers(calls)
        self.assertEqual(calls, before)

    def test_it_is_not_changed_for_a_while_either(self):
        self.assertEqual(answers(Unchanging(joined(MIXED))), answers(joined(MIXED)))

    def test_what_is_answered_is_another_list(self):
        calls = joined(MIXED)
        first = answers(calls)
        before = list(first)
        first.clear()
        self.assertEqual(answers(calls), before)

    def test_it_prints_nothing(self):
        out, err = io.StringIO(), io.StringIO()
        with contextlib.redirect_stdout(out), contextlib.redirect_stderr(err):
            answers(joined(MIXED))
        self.assertEqual(out.getvalue() + err.getvalue(), "")


class NothingKept(unittest.TestCase):
    def test_the_same_list_answers_the_same(self):
        calls = joined(MIXED)
        self.assertEqual(answers(calls), answers(calls))

    def test_another_list_between(self):
        calls = joined([start(), add(0), add(0), drop(1)])
        before = answers(calls)
        answers(joined(all_boxes()))
        self.assertEqual(answers(calls), before)

    def test_boxes_of_a_list_are_not_there_in_the_next(self):
        answers(joined(all_boxes()))
        self.assertEqual(told(start(), add(7), drop(1), add(0)), [0, -2, -2, 1])

    def test_places_of_a_list_are_not_there_in_the_next(self):
        calls = [start(), add(0), lay(40, 30), place(1), at(20, 20)]
        self.assertEqual(replies(*calls), [0, 1, 2, (1, 1, 38, 28), 1])
        self.assertEqual(replies(start(), place(0), at(20, 20), add(0), place(1)), [0, (0, 0, 0, 0), -2, 1, -11])
        self.assertEqual(replies(*calls), [0, 1, 2, (1, 1, 38, 28), 1])


class Long(unittest.TestCase):
    def test_3000_calls_in_nearly_16000_numbers(self):
        pairs = [add(0), drop(1)] * 713
        calls = [start()] + pairs + [drop(1)] * (2999 - len(pairs))
        self.assertEqual(len(calls), 3000)
        self.assertEqual(len(joined(calls)), 15995)
        self.assertIsNone(first_difference(calls, [0] + [1, 1] * 713 + [-2] * 1573))

    def test_3000_calls_of_the_shortest(self):
        self.assertIsNone(first_difference([start()] + [drop(0)] * 2999, [0] + [-13] * 2999))

    def test_3000_calls_of_places(self):
        calls = [start(**loose())] + [add(0, **loose(grow=1))] * 3
        expected = [0, 1, 2, 3]
        for number in range(749):
            calls += [lay(3 * number, 1), place(2), at(3 * number, 0), at(2 * number, 0)]
            expected += [4, (number, 0, number, 1), -2, 3 if number > 0 else -2]
        self.assertEqual(len(calls), 3000)
        self.assertIsNone(first_difference(calls, expected))

    def test_256_boxes_laid_out_in_many_windows(self):
        calls = all_boxes() + [lay(300 + number, 600 - number) for number in range(500)]
        self.assertEqual(told(*calls)[256], 256)
        self.assertEqual(told(*calls, lay(799, 101))[-1], 0)

    def test_16000_numbers(self):
        calls = [start(), start()] + [add(0)] * 998 + [drop(1)]
        self.assertEqual(len(joined(calls)), 16000)
        self.assertIsNone(first_difference(calls, [0, 0] + list(range(1, 65)) + [-28] * 934 + [64]))

    def test_a_thousand_starts(self):
        self.assertIsNone(first_difference([start()] * 1066, [0] * 1066))

    def test_a_thousand_rules_set(self):
        calls = [start()] + [put(0, pad=number % 256) for number in range(999)]
        self.assertIsNone(first_difference(calls, [0] * 1000))


if __name__ == "__main__":
    unittest.main()
