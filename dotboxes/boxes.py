"""The boxes of one object, and the calls on them."""

from dotboxes.places import inner_places, natural_size

NO_SUCH_BOX = -2
NOT_LAID_OUT = -11
NOT_ALLOWED = -13
NOT_AS_TOLD = -22
NO_MORE_FIT = -28

MOST_BOXES = 256
MOST_IN_ONE = 64
MOST_DEEP = 16
MOST_WINDOW = 65535


class Box:
    """One box: lies_in is the number of the box around it; inner holds the numbers of those in it, in their order."""

    def __init__(self, rule, lies_in, depth):
        self.rule = rule
        self.lies_in = lies_in
        self.depth = depth
        self.inner = []
        # x, y, how wide, how high; None tells a box that is new since all were laid out last.
        self.place = None

    def holds_dot(self, x, y):
        if self.place is None:
            return False
        right = self.place[0] + self.place[2]
        below = self.place[1] + self.place[3]
        return self.place[0] <= x < right and self.place[1] <= y < below


class Boxes:
    """All boxes of one object, by their numbers; none until bx_start has answered 0."""

    def __init__(self):
        self.by_number = {}

    def bx_start(self, rule):
        if not rule.is_as_told():
            return NOT_AS_TOLD
        first = Box(rule, None, 1)
        # Box 0 alone, in a window of 0 by 0, is laid out without a walk.
        first.place = (0, 0, 0, 0)
        self.by_number = {0: first}
        return 0

    def bx_add(self, into, rule):
        if into not in self.by_number:
            return NO_SUCH_BOX
        if not rule.is_as_told():
            return NOT_AS_TOLD
        outer = self.by_number[into]
        if outer.rule.is_leaf():
            return NOT_ALLOWED
        if not self.has_space_in(outer):
            return NO_MORE_FIT
        number = self.least_free_number()
        self.by_number[number] = Box(rule, into, outer.depth + 1)
        outer.inner.append(number)
        return number

    def bx_set(self, number, rule):
        if number not in self.by_number:
            return NO_SUCH_BOX
        if not rule.is_as_told():
            return NOT_AS_TOLD
        box = self.by_number[number]
        if rule.is_leaf() and len(box.inner) > 0:
            return NOT_ALLOWED
        box.rule = rule
        return 0

    def bx_drop(self, number):
        if number not in self.by_number:
            return NO_SUCH_BOX
        box = self.by_number[number]
        if number == 0 or len(box.inner) > 0:
            return NOT_ALLOWED
        outer = self.by_number[box.lies_in]
        outer.inner.remove(number)
        self.by_number.pop(number)
        return len(self.by_number)

    def bx_lay(self, width, height):
        if width > MOST_WINDOW or height > MOST_WINDOW:
            return NOT_AS_TOLD
        places = self.places_in_window(width, height)
        moved = 0
        for number in places:
            box = self.by_number[number]
            if box.place != places[number]:
                box.place = places[number]
                moved = moved + 1
        return moved

    def bx_place(self, number):
        if number not in self.by_number:
            return NO_SUCH_BOX
        if self.by_number[number].place is None:
            return NOT_LAID_OUT
        return 0

    def bx_at(self, x, y):
        found = NO_SUCH_BOX
        deeper = self.last_at([0], x, y)
        while deeper != NO_SUCH_BOX:
            found = deeper
            deeper = self.last_at(self.by_number[found].inner, x, y)
        return found

    def place_out(self, number):
        """What bx_place tells beside its 0."""
        return self.by_number[number].place

    def has_space_in(self, outer):
        if len(outer.inner) >= MOST_IN_ONE or outer.depth >= MOST_DEEP:
            return False
        return len(self.by_number) < MOST_BOXES

    def least_free_number(self):
        number = 0
        while number in self.by_number:
            number = number + 1
        return number

    def last_at(self, numbers, x, y):
        for number in reversed(numbers):
            if self.by_number[number].holds_dot(x, y):
                return number
        return NO_SUCH_BOX

    def places_in_window(self, width, height):
        """The place of every box, by its number."""
        order = self.outer_before_inner()
        sizes = self.natural_sizes(order)
        places = {0: (0, 0, width, height)}
        for number in order:
            box = self.by_number[number]
            if len(box.inner) > 0:
                rules = [self.by_number[k].rule for k in box.inner]
                stand = inner_places(box.rule, places[number], rules, [sizes[k] for k in box.inner])
                places.update(dict(zip(box.inner, stand)))
        return places

    def natural_sizes(self, order):
        sizes = {}
        for number in reversed(order):
            box = self.by_number[number]
            sizes[number] = natural_size(box.rule, [sizes[k] for k in box.inner])
        return sizes

    def outer_before_inner(self):
        """All numbers, each behind that of the box that it lies in."""
        order = [0]
        walked = 0
        while walked < len(order):
            order.extend(self.by_number[order[walked]].inner)
            walked = walked + 1
        return order
