"""The boxes of one object, and the calls that make, change and drop them."""

NO_SUCH_BOX = -2
NOT_ALLOWED = -13
RULE_NOT_AS_TOLD = -22
NO_MORE_FIT = -28

MOST_BOXES = 256
MOST_IN_ONE = 64
MOST_DEEP = 16


class Box:
    """One box: lies_in is the number of the box around it; inner holds the numbers of those in it, in their order."""

    def __init__(self, rule, lies_in, depth):
        self.rule = rule
        self.lies_in = lies_in
        self.depth = depth
        self.inner = []
        # None tells a box that is new since all were laid out last.
        self.place = None


class Boxes:
    """All boxes of one object, by their numbers; none until bx_start has answered 0."""

    def __init__(self):
        self.by_number = {}

    def bx_start(self, rule):
        if not rule.is_as_told():
            return RULE_NOT_AS_TOLD
        first = Box(rule, None, 1)
        # Box 0 alone, in a window of 0 by 0, is laid out without a walk.
        first.place = (0, 0, 0, 0)
        self.by_number = {0: first}
        return 0

    def bx_add(self, into, rule):
        if into not in self.by_number:
            return NO_SUCH_BOX
        if not rule.is_as_told():
            return RULE_NOT_AS_TOLD
        outer = self.by_number[into]
        if outer.rule.is_leaf():
            return NOT_ALLOWED
        if not self.has_space_in(outer):
            return NO_MORE_FIT
        number = self.least_free_number()
        self.by_number[number] = Box(rule, into, outer.depth + 1)
        outer.inner.append(number)
        return number

    def bx_set(self, number, rule):
        if number not in self.by_number:
            return NO_SUCH_BOX
        if not rule.is_as_told():
            return RULE_NOT_AS_TOLD
        box = self.by_number[number]
        if rule.is_leaf() and len(box.inner) > 0:
            return NOT_ALLOWED
        box.rule = rule
        return 0

    def bx_drop(self, number):
        if number not in self.by_number:
            return NO_SUCH_BOX
        box = self.by_number[number]
        if number == 0 or len(box.inner) > 0:
            return NOT_ALLOWED
        outer = self.by_number[box.lies_in]
        outer.inner.remove(number)
        self.by_number.pop(number)
        return len(self.by_number)

    def has_space_in(self, outer):
        if len(outer.inner) >= MOST_IN_ONE or outer.depth >= MOST_DEEP:
            return False
        return len(self.by_number) < MOST_BOXES

    def least_free_number(self):
        number = 0
        while number in self.by_number:
            number = number + 1
        return number
