"""A rule: how large a box would like to be, and how it holds the boxes in it."""

LEAF = 2

GREATEST_SIDE = 3
GREATEST_REST = 3


class Rule:
    """A rule as its fourteen numbers tell it; pairs are (across, down)."""

    def __init__(self, numbers):
        self.least = (numbers[0], numbers[1])
        self.wish = (numbers[2], numbers[3])
        self.most = (numbers[4], numbers[5])
        self.kind = numbers[6]
        self.pad = numbers[7]
        self.gap = numbers[8]
        self.grow = numbers[9]
        self.give = numbers[10]
        self.side = numbers[11]
        self.rest = numbers[12]
        self.none = numbers[13]

    def is_as_told(self):
        return self.sizes_are_as_told() and self.choices_are_as_told()

    def sizes_are_as_told(self):
        for direction in (0, 1):
            if self.least[direction] > self.wish[direction]:
                return False
            if self.wish[direction] > self.most[direction]:
                return False
        return True

    def choices_are_as_told(self):
        if self.kind > LEAF:
            return False
        if self.side > GREATEST_SIDE or self.rest > GREATEST_REST:
            return False
        return self.none == 0

    def is_leaf(self):
        return self.kind == LEAF

    def is_along(self, direction):
        # A row is kind 0 and goes across, direction 0; a column is kind 1 and goes down, direction 1.
        return self.kind == direction
