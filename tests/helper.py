"""Calls in numbers, written by name, their answers read back, and a slow reckoning of the document's words."""

from fractions import Fraction

from dotboxes.layer import answers

GREATEST = 9223372036854775807
ROW, COLUMN, LEAF = 0, 1, 2

ORDINARY = {
    "least_x": 5, "least_y": 6, "wish_x": 10, "wish_y": 20, "most_x": 100, "most_y": 200,
    "kind": ROW, "pad": 1, "gap": 2, "grow": 3, "give": 4, "side": 0, "rest": 0, "none": 0,
}

RULES_AS_TOLD = [
    {},
    {"least_x": 10, "most_x": 10},
    {"least_y": 20, "most_y": 20},
    {"least_x": 0, "wish_x": 0, "most_x": 0, "least_y": 0, "wish_y": 0, "most_y": 0},
    {"least_x": 65535, "wish_x": 65535, "most_x": 65535},
    {"least_y": 65535, "wish_y": 65535, "most_y": 65535},
    {"least_x": 0, "wish_x": 0, "most_x": 65535, "least_y": 0, "wish_y": 65535, "most_y": 65535},
    {"least_x": 300, "wish_x": 300, "most_x": 300},
    {"least_y": 300, "wish_y": 300, "most_y": 300},
    {"kind": COLUMN}, {"kind": LEAF},
    {"pad": 0, "gap": 0, "grow": 0, "give": 0},
    {"pad": 255, "gap": 255, "grow": 255, "give": 255},
    {"side": 1}, {"side": 2}, {"side": 3},
    {"rest": 1}, {"rest": 2}, {"rest": 3},
    {"kind": LEAF, "side": 3, "rest": 3},
]

RULES_NOT_AS_TOLD = [
    {"least_x": 11}, {"least_y": 21},
    {"wish_x": 101}, {"wish_y": 201},
    {"least_x": 101}, {"least_y": 201},
    {"least_x": 65535, "wish_x": 65534, "most_x": 65535},
    {"least_y": 65535, "wish_y": 65534, "most_y": 65535},
    {"wish_x": 65535, "most_x": 65534}, {"wish_y": 65535, "most_y": 65534},
    {"least_x": 1, "wish_x": 0, "most_x": 0}, {"least_y": 1, "wish_y": 0, "most_y": 0},
    {"least_x": 0, "wish_x": 1, "most_x": 0}, {"least_y": 0, "wish_y": 1, "most_y": 0},
    {"kind": 3}, {"kind": 255}, {"kind": GREATEST},
    {"side": 4}, {"side": GREATEST},
    {"rest": 4}, {"rest": GREATEST},
    {"none": 1}, {"none": GREATEST},
    {"kind": LEAF, "side": 4}, {"kind": LEAF, "rest": 4}, {"kind": LEAF, "none": 1},
]


def rule(**changes):
    return list((ORDINARY | changes).values())


def start(**changes):
    return [0] + rule(**changes)


def add(into, **changes):
    return [1, into] + rule(**changes)


def put(i, **changes):
    return [2, i] + rule(**changes)


def drop(i):
    return [3, i]


def lay(width, height):
    return [4, width, height]


def place(i):
    return [5, i]


def at(x, y):
    return [6, x, y]


def loose(**changes):
    """Changes to a rule: by itself it wishes, keeps and takes nothing, and may be of any size."""
    return {
        "least_x": 0, "least_y": 0, "wish_x": 0, "wish_y": 0, "most_x": 65535, "most_y": 65535,
        "kind": ROW, "pad": 0, "gap": 0, "grow": 0, "give": 0, "side": 0, "rest": 0, "none": 0,
    } | changes


def fixed(width, height, **changes):
    """Changes to a rule of one size alone; a leaf, if it isn't told otherwise."""
    sizes = {"least_x": width, "wish_x": width, "most_x": width, "least_y": height, "wish_y": height, "most_y": height}
    return loose(kind=LEAF, **sizes) | changes


def joined(calls):
    return [number for call in calls for number in call]


def replies(*calls):
    """What each call answers: a number, or a place as (x, y, how wide, how high)."""
    numbers = joined(calls)
    if len(calls) > 3000 or len(numbers) > 16000:
        raise AssertionError(f"{len(calls)} calls of {len(numbers)} numbers are more than may be handed in")
    out = answers(numbers)
    read = []
    k = 0
    while k < len(out):
        answer = out[k + 1:k + 1 + out[k]]
        if answer[:1] + [len(answer), out[k]] not in ([0, 2, 2], [1, 5, 5]):
            raise AssertionError(f"no answer of form 0 or 1 at {k}: {out[k:k + 9]}")
        read.append(answer[1] if answer[0] == 0 else tuple(answer[1:]))
        k += 1 + out[k]
    if len(read) != len(calls):
        raise AssertionError(f"{len(read)} answers to {len(calls)} calls")
    return read


def told(*calls):
    """What each call answers, where every answer is a number alone."""
    read = replies(*calls)
    if {type(answer) for answer in read} != {int}:
        raise AssertionError(f"not numbers alone: {read[:60]}")
    return read


def last(*calls):
    return replies(*calls)[-1]


def places(calls, numbers):
    """The places of these boxes behind the calls."""
    return replies(*calls, *[place(number) for number in numbers])[len(calls):]


def first_difference(calls, expected):
    """None, or the first call that answers otherwise: assertEqual takes minutes to compare long lists."""
    got = replies(*calls)
    if len(got) != len(expected):
        return f"{len(got)} answers, not {len(expected)}"
    for k, pair in enumerate(zip(got, expected)):
        if pair[0] != pair[1]:
            return f"call {k}, {calls[k]}, answers {pair[0]}, not {pair[1]}"
    return None


def chain(deepest):
    """Calls that make boxes 0, 1, .. each in the one before; the last is deepest deep."""
    return [start()] + [add(number) for number in range(deepest - 1)]


def full_box():
    """Box 0 with 64 boxes in it, numbered 1 to 64."""
    return [start()] + [add(0)] * 64


def all_boxes():
    """All 256 boxes: 0 to 2 hold 64 each, 3 holds 63; 4 is a row, 5 a leaf, both empty."""
    adds = [add(0)] * 4 + [add(0, kind=LEAF)] + [add(0)] * 59
    return [start()] + adds + [add(1)] * 64 + [add(2)] * 64 + [add(3)] * 63


def drawn_length(chance):
    return chance.randrange(chance.choice([1, 4, 13, 61, 401, 65536]))


def drawn_bounds(chance):
    """least, wish, most in one direction; often one end, or both, left open."""
    least, wish, most = sorted([drawn_length(chance) for number in range(3)])
    return (chance.choice([0, 0, least, wish]), wish, chance.choice([65535, 65535, most, wish]))


def drawn_rule(chance):
    """Changes that make a rule as told."""
    across, down = drawn_bounds(chance), drawn_bounds(chance)
    return {
        "least_x": across[0], "least_y": down[0], "wish_x": across[1], "wish_y": down[1],
        "most_x": across[2], "most_y": down[2], "kind": chance.choice([ROW, ROW, COLUMN, COLUMN, LEAF]),
        "pad": chance.choice([0, 0, 0, 1, 2, 9, 255]), "gap": chance.choice([0, 0, 1, 3, 10, 255]),
        "grow": chance.choice([0, 1, 1, 2, 3, 254, 255]), "give": chance.choice([0, 1, 1, 2, 3, 254, 255]),
        "side": chance.randrange(4), "rest": chance.randrange(4), "none": 0,
    }


def drawn_window(chance, words):
    """A window's size: any, or near what box 0 would have by nature, where little is over or lacking."""
    size = [drawn_length(chance), drawn_length(chance)]
    for way in (0, 1):
        if chance.randrange(2) == 0:
            size[way] = words.natural(0, way) + chance.randrange(-7, 8)
    return [min(max(length, 0), 65535) for length in size]


def fair_parts(spans, weights, amount):
    """What each takes of the amount: t times its weight or its span, t such that all together take it."""
    if sum([span for span, weight in zip(spans, weights) if weight > 0]) < amount:
        return [span if weight > 0 else 0 for span, weight in zip(spans, weights)]

    def taken(t):
        return [min(t * weight, span) for span, weight in zip(spans, weights)]

    before = Fraction(0)
    for turn in sorted([Fraction(span, weight) for span, weight in zip(spans, weights) if weight > 0]):
        low, high = sum(taken(before)), sum(taken(turn))
        # Between two turns all together grow evenly with t.
        if high >= amount:
            return taken(before + (amount - low) * (turn - before) / (high - low))
        before = turn
    raise AssertionError("no t")


def fair_lengths(things, length):
    """Things are (least, wish, most, grow, give)."""
    wishes = [thing[1] for thing in things]
    more = length - sum(wishes)
    if more > 0:
        parts = fair_parts([thing[2] - thing[1] for thing in things], [thing[3] for thing in things], more)
        return [wish + part for wish, part in zip(wishes, parts)]
    if more < 0:
        parts = fair_parts([thing[1] - thing[0] for thing in things], [thing[4] for thing in things], -more)
        return [wish - part for wish, part in zip(wishes, parts)]
    return wishes


def shared(things, length):
    """What sh_share has as out: of each, the edge behind it less the edge before it."""
    fair = fair_lengths(things, length)
    edges = [sum(fair[:k], Fraction(0)).__floor__() for k in range(len(fair) + 1)]
    return [behind - before for before, behind in zip(edges, edges[1:])]


class Known:
    """One box as the words speak of it."""

    def __init__(self, number, into, changes):
        self.number = number
        self.into = into
        self.rule = changes
        self.place = None

    def bound(self, name, way):
        return self.rule[name + "_" + "xy"[way]]


class Words:
    """The promises word by word; of each box it keeps where it lies, its rule and its place, and reckons all else."""

    def __init__(self):
        self.known = []

    def numbers(self):
        return [box.number for box in self.known]

    def box(self, i):
        return [box for box in self.known if box.number == i][0]

    def boxes_in(self, i):
        return [box for box in self.known if box.into == i]

    def deep(self, i):
        into = self.box(i).into
        return 1 if into is None else 1 + self.deep(into)

    def start(self, changes, wrong):
        if wrong:
            return -22
        self.known = [Known(0, None, changes)]
        self.known[0].place = (0, 0, 0, 0)
        return 0

    def add(self, into, changes, wrong):
        due = [
            (-2, lambda: into not in self.numbers()),
            (-22, lambda: wrong),
            (-13, lambda: self.box(into).rule["kind"] == LEAF),
            (-28, lambda: len(self.boxes_in(into)) == 64 or self.deep(into) == 16 or len(self.known) == 256),
        ]
        for refusal, is_due in due:
            if is_due():
                return refusal
        new = min(set(range(257)) - set(self.numbers()))
        self.known.append(Known(new, into, changes))
        return new

    def put(self, i, changes, wrong):
        if i not in self.numbers():
            return -2
        if wrong:
            return -22
        if changes["kind"] == LEAF and self.boxes_in(i):
            return -13
        self.box(i).rule = changes
        return 0

    def drop(self, i):
        if i not in self.numbers():
            return -2
        if i == 0 or self.boxes_in(i):
            return -13
        self.known = [box for box in self.known if box.number != i]
        return len(self.known)

    def lay(self, width, height):
        if width > 65535 or height > 65535:
            return -22
        before = {box.number: box.place for box in self.known}
        self.stand(self.box(0), (0, 0, width, height))
        return len([box for box in self.known if box.place != before[box.number]])

    def place(self, i):
        if i not in self.numbers():
            return -2
        if self.box(i).place is None:
            return -11
        return self.box(i).place

    def at(self, x, y):
        return self.found_at(self.box(0), x, y)

    def found_at(self, box, x, y):
        if box.place is None:
            return -2
        left, top, width, height = box.place
        if not (left <= x < left + width and top <= y < top + height):
            return -2
        within = [self.found_at(inner, x, y) for inner in self.boxes_in(box.number)]
        return ([box.number] + [number for number in within if number != -2])[-1]

    def natural(self, i, way):
        box = self.box(i)
        return min(max(box.bound("wish", way), self.content(box, way)), box.bound("most", way))

    def content(self, box, way):
        if box.rule["kind"] == LEAF:
            return 0
        sizes = [self.natural(inner.number, way) for inner in self.boxes_in(box.number)]
        gaps = max(len(sizes) - 1, 0) * box.rule["gap"]
        together = sum(sizes) + gaps if box.rule["kind"] == way else max(sizes, default=0)
        return together + 2 * box.rule["pad"]

    def room(self, box, way):
        return max(box.place[2 + way] - 2 * box.rule["pad"], 0)

    def things(self, box, way):
        """The boxes in the box, as sh_share takes them."""
        return [
            (inner.bound("least", way), self.natural(inner.number, way), inner.bound("most", way),
             inner.rule["grow"], inner.rule["give"]) for inner in self.boxes_in(box.number)]

    def stand(self, box, where):
        box.place = where
        inner = self.boxes_in(box.number)
        spans = [self.along(box, way) if box.rule["kind"] == way else self.beside(box, way) for way in (0, 1)]
        for k, other in enumerate(inner):
            self.stand(other, (spans[0][k][0], spans[1][k][0], spans[0][k][1], spans[1][k][1]))

    def along(self, box, way):
        things = self.things(box, way)
        gap, many = box.rule["gap"], len(things)
        length = max(self.room(box, way) - gap * (many - 1), 0)
        lengths = shared(things, length)
        over = max(length - sum(lengths), 0)
        between = [k * over // max(many - 1, 1) for k in range(many)]
        more = ([0] * many, [over // 2] * many, [over] * many, between)[box.rule["rest"]]
        begin = box.place[way] + box.rule["pad"]
        return [(begin + sum(lengths[:k]) + k * gap + more[k], lengths[k]) for k in range(many)]

    def beside(self, box, way):
        room, begin = self.room(box, way), box.place[way] + box.rule["pad"]
        spans = []
        for inner in self.boxes_in(box.number):
            size = self.natural(inner.number, way)
            filling = min(max(room, inner.bound("least", way)), inner.bound("most", way))
            middle = Fraction(room - size, 2).__floor__()
            spans.append([(begin, filling), (begin, size), (begin + middle, size), (begin + room - size, size)]
                         [inner.rule["side"]])
        return spans
