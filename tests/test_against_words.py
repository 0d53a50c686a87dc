"""Long mixed lists of calls, held against a slow reading of promises 1 to 4, word for word."""

import random
import unittest

from helper import GREATEST, RULES_NOT_AS_TOLD, add, drop, first_difference, put, start


class Words:
    """Keeps (number, in, kind) for each box and works out all else anew each time."""

    def __init__(self):
        self.known = []

    def numbers(self):
        return [number for number, into, kind in self.known]

    def kind_of(self, i):
        return [kind for number, into, kind in self.known if number == i][0]

    def boxes_in(self, i):
        return [number for number, into, kind in self.known if into == i]

    def deep(self, i):
        around = [into for number, into, kind in self.known if number == i][0]
        return 1 if around is None else 1 + self.deep(around)

    def start(self, kind, wrong):
        if wrong:
            return -22
        self.known = [(0, None, kind)]
        return 0

    def add(self, into, kind, wrong):
        due = [
            (-2, lambda: into not in self.numbers()),
            (-22, lambda: wrong),
            (-13, lambda: self.kind_of(into) == 2),
            (-28, lambda: len(self.boxes_in(into)) == 64 or self.deep(into) == 16 or len(self.known) == 256),
        ]
        for refusal, is_due in due:
            if is_due():
                return refusal
        new = min(set(range(257)) - set(self.numbers()))
        self.known.append((new, into, kind))
        return new

    def put(self, i, kind, wrong):
        if i not in self.numbers():
            return -2
        if wrong:
            return -22
        if kind == 2 and self.boxes_in(i):
            return -13
        self.known = [(number, into, kind if number == i else old) for number, into, old in self.known]
        return 0

    def drop(self, i):
        if i not in self.numbers():
            return -2
        if i == 0 or self.boxes_in(i):
            return -13
        self.known = [row for row in self.known if row[0] != i]
        return len(self.known)


def some_box(chance, words):
    kind = chance.randrange(12)
    if kind == 0:
        return chance.choice([255, 256, 300, GREATEST])
    if kind == 1:
        return chance.randrange(256)
    if kind < 6:
        return max(words.numbers())
    return chance.choice(words.numbers())


def some_rule(chance):
    wrong = chance.randrange(10) == 0
    changes = {"kind": chance.choice([0, 0, 0, 1, 1, 1, 2])}
    if wrong:
        changes |= chance.choice(RULES_NOT_AS_TOLD)
    return changes, wrong


def some_call(chance, words, drops):
    """A call in numbers, and what the words say that it answers."""
    changes, wrong = some_rule(chance)
    if chance.randrange(600) == 0:
        return start(**changes), words.start(changes["kind"], wrong)
    i = some_box(chance, words)
    if chance.randrange(100) < drops:
        return drop(i), words.drop(i)
    if chance.randrange(5) == 0:
        return put(i, **changes), words.put(i, changes["kind"], wrong)
    return add(i, **changes), words.add(i, changes["kind"], wrong)


class AgainstWords(unittest.TestCase):
    def test_mixed_lists(self):
        seen = set()
        for seed in range(60):
            chance = random.Random(seed)
            words = Words()
            calls, expected = [start()], [words.start(0, False)]
            for step in range(990):
                call, answer = some_call(chance, words, drops=(0, 10, 40)[seed % 3])
                calls.append(call)
                expected.append(answer)
            with self.subTest(seed=seed):
                self.assertIsNone(first_difference(calls, expected))
            seen |= {(call[0], answer) for call, answer in zip(calls, expected) if answer < 0}
        self.assertEqual(seen, {(0, -22), (1, -2), (1, -22), (1, -13), (1, -28),
                                (2, -2), (2, -22), (2, -13), (3, -2), (3, -13)})


if __name__ == "__main__":
    unittest.main()
