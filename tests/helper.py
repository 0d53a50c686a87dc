"""Calls in numbers, written by name, and their answers read back."""

from dotboxes.layer import answers

GREATEST = 9223372036854775807
ROW, COLUMN, LEAF = 0, 1, 2

ORDINARY = {
    "least_x": 5, "least_y": 6, "wish_x": 10, "wish_y": 20, "most_x": 100, "most_y": 200,
    "kind": ROW, "pad": 1, "gap": 2, "grow": 3, "give": 4, "side": 0, "rest": 0, "none": 0,
}

RULES_AS_TOLD = [
    {},
    {"least_x": 10, "most_x": 10},
    {"least_y": 20, "most_y": 20},
    {"least_x": 0, "wish_x": 0, "most_x": 0, "least_y": 0, "wish_y": 0, "most_y": 0},
    {"least_x": 65535, "wish_x": 65535, "most_x": 65535},
    {"least_y": 65535, "wish_y": 65535, "most_y": 65535},
    {"least_x": 0, "wish_x": 0, "most_x": 65535, "least_y": 0, "wish_y": 65535, "most_y": 65535},
    {"least_x": 300, "wish_x": 300, "most_x": 300},
    {"least_y": 300, "wish_y": 300, "most_y": 300},
    {"kind": COLUMN}, {"kind": LEAF},
    {"pad": 0, "gap": 0, "grow": 0, "give": 0},
    {"pad": 255, "gap": 255, "grow": 255, "give": 255},
    {"side": 1}, {"side": 2}, {"side": 3},
    {"rest": 1}, {"rest": 2}, {"rest": 3},
    {"kind": LEAF, "side": 3, "rest": 3},
]

RULES_NOT_AS_TOLD = [
    {"least_x": 11}, {"least_y": 21},
    {"wish_x": 101}, {"wish_y": 201},
    {"least_x": 101}, {"least_y": 201},
    {"least_x": 65535, "wish_x": 65534, "most_x": 65535},
    {"least_y": 65535, "wish_y": 65534, "most_y": 65535},
    {"wish_x": 65535, "most_x": 65534}, {"wish_y": 65535, "most_y": 65534},
    {"least_x": 1, "wish_x": 0, "most_x": 0}, {"least_y": 1, "wish_y": 0, "most_y": 0},
    {"least_x": 0, "wish_x": 1, "most_x": 0}, {"least_y": 0, "wish_y": 1, "most_y": 0},
    {"kind": 3}, {"kind": 255}, {"kind": GREATEST},
    {"side": 4}, {"side": GREATEST},
    {"rest": 4}, {"rest": GREATEST},
    {"none": 1}, {"none": GREATEST},
    {"kind": LEAF, "side": 4}, {"kind": LEAF, "rest": 4}, {"kind": LEAF, "none": 1},
]


def rule(**changes):
    return list((ORDINARY | changes).values())


def start(**changes):
    return [0] + rule(**changes)


def add(into, **changes):
    return [1, into] + rule(**changes)


def put(i, **changes):
    return [2, i] + rule(**changes)


def drop(i):
    return [3, i]


def joined(calls):
    return [number for call in calls for number in call]


def told(*calls):
    """What each call answers, where every answer is a number alone."""
    out = answers(joined(calls))
    if len(out) != 3 * len(calls) or set(out[0::3]) != {2} or set(out[1::3]) != {0}:
        raise AssertionError(f"not one answer of form 0 for each of {len(calls)} calls: {out[:60]}")
    return out[2::3]


def last(*calls):
    return told(*calls)[-1]


def first_difference(calls, expected):
    """None, or the first call that answers otherwise: assertEqual takes minutes to compare long lists."""
    got = told(*calls)
    if len(got) != len(expected):
        return f"{len(got)} answers, not {len(expected)}"
    for k, pair in enumerate(zip(got, expected)):
        if pair[0] != pair[1]:
            return f"call {k}, {calls[k]}, answers {pair[0]}, not {pair[1]}"
    return None


def chain(deepest):
    """Calls that make boxes 0, 1, .. each in the one before; the last is deepest deep."""
    return [start()] + [add(number) for number in range(deepest - 1)]


def full_box():
    """Box 0 with 64 boxes in it, numbered 1 to 64."""
    return [start()] + [add(0)] * 64


def all_boxes():
    """All 256 boxes: 0 to 2 hold 64 each, 3 holds 63; 4 is a row, 5 a leaf, both empty."""
    adds = [add(0)] * 4 + [add(0, kind=LEAF)] + [add(0)] * 59
    return [start()] + adds + [add(1)] * 64 + [add(2)] * 64 + [add(3)] * 63
