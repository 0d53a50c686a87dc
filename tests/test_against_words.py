"""Long drawn lists of all seven calls, held against a slow reckoning of the document's words."""

import random
import unittest

from dotboxes.shares import Thing, shared_lengths
from helper import (GREATEST, ORDINARY, RULES_NOT_AS_TOLD, Words, add, at, drawn_bounds, drawn_rule, drawn_window,
                    drop, fair_lengths, first_difference, lay, loose, place, put, shared, start)

LOWEST = -GREATEST - 1


def some_box(chance, words):
    kind = chance.randrange(12)
    if kind == 0:
        return chance.choice([255, 256, 300, GREATEST])
    if kind == 1:
        return chance.randrange(256)
    if kind < 6:
        return max(words.numbers())
    return chance.choice(words.numbers())


def some_rule(chance):
    changes = drawn_rule(chance)
    if chance.randrange(10) > 0:
        return changes, False
    return ORDINARY | {"kind": changes["kind"]} | chance.choice(RULES_NOT_AS_TOLD), True


def some_window(chance, words):
    size = drawn_window(chance, words)
    if chance.randrange(8) == 0:
        size[chance.randrange(2)] = chance.choice([65536, GREATEST])
    return size


def some_dot(chance, words):
    """Mostly at or near the edge of a box that is laid out."""
    if chance.randrange(9) == 0:
        return [chance.choice([LOWEST, -1, 0, GREATEST]), chance.choice([LOWEST, -1, 0, GREATEST])]
    where = chance.choice([box.place for box in words.known if box.place is not None])
    dot = []
    for way in (0, 1):
        begin, end = where[way], where[way] + where[2 + way]
        dot.append(chance.choice([begin - 1, begin, begin + 1, (begin + end) // 2, end - 1, end]))
    return dot


def change(chance, words, drops):
    """A call that changes the boxes, and what the words say that it answers."""
    changes, wrong = some_rule(chance)
    if chance.randrange(600) == 0:
        return start(**changes), words.start(changes, wrong)
    i = some_box(chance, words)
    if chance.randrange(100) < drops:
        return drop(i), words.drop(i)
    if chance.randrange(5) == 0:
        return put(i, **changes), words.put(i, changes, wrong)
    return add(i, **changes), words.add(i, changes, wrong)


def question(chance, words, lays):
    """A call of bx_lay, bx_place or bx_at, and what the words say that it answers."""
    if chance.randrange(100) < lays:
        width, height = some_window(chance, words)
        return lay(width, height), words.lay(width, height)
    if chance.randrange(2) == 0:
        i = some_box(chance, words)
        return place(i), words.place(i)
    x, y = some_dot(chance, words)
    return at(x, y), words.at(x, y)


def drawn_list(chance, many, questions, lays, drops):
    """So many calls behind bx_start, and what they answer; of a hundred, so many are questions."""
    words = Words()
    calls, expected = [start(**loose())], [words.start(loose(), False)]
    for step in range(many):
        if chance.randrange(100) < questions:
            call, answer = question(chance, words, lays)
        else:
            call, answer = change(chance, words, drops)
        calls.append(call)
        expected.append(answer)
    return calls, expected


class AgainstWords(unittest.TestCase):
    def agrees(self, seeds, **how):
        """Every list answers as the words say; gives back the refusals that came up, with their calls."""
        seen = set()
        for seed in seeds:
            calls, expected = drawn_list(random.Random(seed), **how)
            with self.subTest(seed=seed, **how):
                self.assertIsNone(first_difference(calls, expected))
            seen |= {(call[0], answer) for call, answer in zip(calls, expected)
                     if isinstance(answer, int) and answer < 0}
        return seen

    def test_boxes_alone(self):
        seen = set()
        for drops in (0, 10, 40):
            seen |= self.agrees(range(20), many=990, questions=0, lays=0, drops=drops)
        self.assertEqual(seen, {(0, -22), (1, -2), (1, -22), (1, -13), (1, -28),
                                (2, -2), (2, -22), (2, -13), (3, -2), (3, -13)})

    def test_few_boxes_and_many_questions(self):
        seen = self.agrees(range(100), many=300, questions=70, lays=30, drops=50)
        self.assertLessEqual({(4, -22), (5, -2), (5, -11), (6, -2)}, seen)

    def test_boxes_that_become_more_and_more(self):
        seen = self.agrees(range(100, 130), many=600, questions=60, lays=5, drops=5)
        self.assertLessEqual({(4, -22), (5, -2), (5, -11), (6, -2)}, seen)

    def test_3000_calls(self):
        self.agrees(range(200, 203), many=2999, questions=80, lays=4, drops=45)


class SharedOut(unittest.TestCase):
    def test_drawn_things(self):
        chance = random.Random(7)
        for step in range(3000):
            things = []
            for number in range(chance.choice([0, 1, 2, 3, 5, 9, 64])):
                grow, give = chance.choice([0, 1, 2, 255]), chance.choice([0, 1, 3, 254])
                things.append((*drawn_bounds(chance), grow, give))
            length = max(sum([thing[1] for thing in things]) + chance.randrange(-40, 41), 0)
            length = chance.choice([length, chance.randrange(65536)])
            got = shared_lengths([Thing(*thing) for thing in things], length)
            near = [abs(size - fair) < 1 for size, fair in zip(got, fair_lengths(things, length), strict=True)]
            if got != shared(things, length) or not all(near):
                self.fail(f"{things}, {length}: {got}")


if __name__ == "__main__":
    unittest.main()
