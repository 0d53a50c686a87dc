"""What holds, a to e, over many drawn trees of boxes and windows."""

import random
import unittest

from helper import (COLUMN, LEAF, ROW, Words, add, drawn_rule, drawn_window, drop, lay, loose, place, put, replies,
                    start)


class Tree:
    """A drawn tree: the calls that make it, and the words that know its rules and who lies in whom."""

    def __init__(self, chance, many):
        self.words = Words()
        first = drawn_rule(chance) | {"kind": chance.choice([ROW, COLUMN])}
        self.words.start(first, False)
        self.calls = [start(**first)]
        for step in range(many):
            # The last number is drawn often, so that boxes lie deep.
            self.add(chance.choice(self.words.numbers() + [max(self.words.numbers())] * 8), drawn_rule(chance))

    def add(self, into, changes):
        if self.words.add(into, changes, False) > 0:
            self.calls.append(add(into, **changes))

    def laid(self, *windows):
        """For each window in turn what bx_lay answers, and all places by their numbers."""
        numbers = self.words.numbers()
        calls = list(self.calls)
        for width, height in windows:
            calls += [lay(width, height)] + [place(number) for number in numbers]
        told = replies(*calls)[len(self.calls):]
        each = 1 + len(numbers)
        return [(told[k], dict(zip(numbers, told[k + 1:k + each]))) for k in range(0, len(told), each)]


def drawn_trees(seed, many):
    for number in range(many):
        chance = random.Random(seed * 100000 + number)
        tree = Tree(chance, chance.choice([1, 2, 3, 5, 9, 20, 60]))
        width, height = drawn_window(chance, tree.words)
        yield chance, tree, (min(width, 65534), min(height, 65534))


def have_a_dot_in_common(one, other):
    """Whether two places have; one of no size has no dots."""
    def in_common(way):
        return max(one[way], other[way]) < min(one[way] + one[2 + way], other[way] + other[2 + way])
    return in_common(0) and in_common(1)


class Holds(unittest.TestCase):
    def check(self, holds, message):
        # assertTrue with a message made anew each time would take longer than what it checks.
        if not holds:
            self.fail(message())

    def test_a_nothing_overlaps(self):
        for chance, tree, window in drawn_trees(1, 400):
            told, where = tree.laid(window)[0]
            for box in tree.words.known:
                inner = [where[other.number] for other in tree.words.boxes_in(box.number)]
                way = box.rule["kind"]
                for k in range(1, len(inner)):
                    behind = inner[k - 1][way] + inner[k - 1][2 + way] + box.rule["gap"]
                    self.check(inner[k][way] >= behind, lambda: f"{inner} in {box.number} of {tree.calls} in {window}")
                    for other in inner[:k]:
                        apart = not have_a_dot_in_common(other, inner[k])
                        self.check(apart, lambda: f"{inner} in {box.number} of {tree.calls} in {window}")

    def test_b_all_is_filled(self):
        filled, over, lacking = 0, 0, 0
        for chance, tree, window in drawn_trees(2, 400):
            told, where = tree.laid(window)[0]
            for box in tree.words.known:
                inner = [where[other.number] for other in tree.words.boxes_in(box.number)]
                if not inner:
                    continue
                way = box.rule["kind"]
                box.place = where[box.number]
                length = max(tree.words.room(box, way) - box.rule["gap"] * (len(inner) - 1), 0)
                things = tree.words.things(box, way)
                shortest = sum([thing[0] if thing[4] > 0 else thing[1] for thing in things])
                longest = sum([thing[2] if thing[3] > 0 else thing[1] for thing in things])
                together = sum([other[2 + way] for other in inner])
                self.check(together == min(max(length, shortest), longest), lambda: f"{inner}, {tree.calls}, {window}")
                filled += shortest <= length <= longest
                over += length > longest
                lacking += length < shortest
        self.assertGreater(min(filled, over, lacking), 100)

    def test_c_steady(self):
        moved = {0: 0, 1: 0}
        for chance, tree, (width, height) in drawn_trees(3, 600):
            before, wider, higher = tree.laid((width, height), (width + 1, height), (width, height + 1))
            for number in before[1]:
                for way, after in ((0, wider), (1, higher)):
                    old, new = before[1][number], after[1][number]
                    ways = (new[way] - old[way], new[way] + new[2 + way] - old[way] - old[2 + way])
                    self.check(set(ways) <= {0, 1}, lambda: f"{number} {old} {new}, {tree.calls}, {width}, {height}")
                    still = (new[1 - way], new[3 - way]) == (old[1 - way], old[3 - way])
                    self.check(still, lambda: f"{number} {old} {new}, {tree.calls}, {width}, {height}")
                    moved[way] += number > 0 and old != new
        self.assertGreater(min(moved.values()), 500)

    def test_c_steady_dot_by_dot(self):
        for chance, tree, window in drawn_trees(4, 60):
            many = min(2900 // (1 + len(tree.words.known)), 200) // 2
            first = chance.randrange(60)
            windows = [(first + k, first) for k in range(many)] + [(first + many, first + k) for k in range(many)]
            laid = tree.laid(*windows)
            for (told, old), (told_next, new) in zip(laid, laid[1:]):
                steps = [new[number][way] + new[number][2 + way] * size - old[number][way] - old[number][2 + way] * size
                         for number in old for way in (0, 1) for size in (0, 1)]
                self.check(set(steps) <= {0, 1}, lambda: f"{old} {new}, {tree.calls}")

    def test_d_told_what_moved(self):
        for chance, tree, window in drawn_trees(5, 400):
            other = drawn_window(chance, tree.words)
            laid = tree.laid(window, window, other, other, window)
            self.assertEqual([laid[1][0], laid[3][0]], [0, 0])
            self.assertEqual([laid[1][1], laid[3][1], laid[4][1]], [laid[0][1], laid[2][1], laid[0][1]])
            self.assertEqual(laid[2][0], len([1 for number in laid[0][1] if laid[0][1][number] != laid[2][1][number]]))
            self.assertEqual(laid[4][0], laid[2][0])
            same = (0, 0, 0, 0) == laid[0][1][0]
            self.assertEqual(laid[0][0], len(tree.words.known) - same)

    def test_d_told_what_moved_behind_changes(self):
        for chance, tree, window in drawn_trees(6, 400):
            told, before = tree.laid(window)[0]
            tree.calls.append(lay(*window))
            gone = set()
            for step in range(chance.randrange(4)):
                i = chance.choice(tree.words.numbers())
                changes = drawn_rule(chance) | {"kind": chance.choice([ROW, COLUMN])}
                if chance.randrange(2) == 0:
                    tree.words.put(i, changes, False)
                    tree.calls.append(put(i, **changes))
                elif tree.words.drop(i) > 0:
                    tree.calls.append(drop(i))
                    gone.add(i)
                else:
                    tree.add(i, changes)
            count, after = tree.laid(window)[0]
            moved = [number for number in after if number in gone or before.get(number) != after[number]]
            self.assertEqual(count, len(moved), (tree.calls, window))

    def test_e_bounds_hold(self):
        held = 0
        for chance, tree, window in drawn_trees(7, 400):
            told, where = tree.laid(window)[0]
            for box in tree.words.known[1:]:
                for way in (0, 1):
                    least, most = box.bound("least", way), box.bound("most", way)
                    size = where[box.number][2 + way]
                    self.check(least <= size <= most, lambda: f"{box.number} {where}, {tree.calls}, {window}")
                    held += size in (least, most)
        self.assertGreater(held, 100)


class Drawn(unittest.TestCase):
    """The drawn trees are such that what holds is asked of something."""

    def test_they_lie_deep_and_have_many_in_one(self):
        deepest, most = 0, 0
        for chance, tree, window in drawn_trees(1, 400):
            deepest = max([deepest] + [tree.words.deep(number) for number in tree.words.numbers()])
            most = max([most] + [len(tree.words.boxes_in(number)) for number in tree.words.numbers()])
        self.assertGreaterEqual(deepest, 5)
        self.assertGreaterEqual(most, 8)

    def test_64_in_one_is_steady(self):
        chance = random.Random(8)
        tree = Tree(chance, 0)
        tree.words.start(loose(gap=1), False)
        tree.calls = [start(**loose(gap=1))]
        for number in range(64):
            tree.add(0, drawn_rule(chance) | {"kind": LEAF, "grow": 1 + number % 5, "give": 1 + number % 7})
        natural = min(tree.words.natural(0, 0), 65000)
        laid = tree.laid(*[(natural + k, 9) for k in range(-20, 20)])
        for (told, old), (told_next, new) in zip(laid, laid[1:]):
            self.assertLessEqual({new[number][0] - old[number][0] for number in old}, {0, 1})

    def test_16_deep_is_steady(self):
        for seed in range(10):
            chance = random.Random(seed)
            tree = Tree(chance, 0)
            tree.words.start(loose(), False)
            tree.calls = [start(**loose())]
            for number in range(15):
                tree.add(number, drawn_rule(chance) | {"kind": number % 2, "pad": number % 3})
            self.assertEqual(tree.words.deep(15), 16)
            laid = tree.laid(*[(width, 50) for width in range(100)])
            for (told, old), (told_next, new) in zip(laid, laid[1:]):
                self.assertLessEqual({new[number][0] - old[number][0] for number in old}, {0, 1})


if __name__ == "__main__":
    unittest.main()
