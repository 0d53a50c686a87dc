"""How large a box is by nature, and where the boxes in it stand.

A span is a beginning and a length in one direction: 0 across, 1 down.
"""

from dotboxes.shares import Thing, shared_lengths

ACROSS = 0
DOWN = 1

SIDE_FILLS = 0
SIDE_BEGINNING = 1
SIDE_MIDDLE = 2

REST_BEHIND = 0
REST_HALF = 1
REST_BEFORE = 2


def natural_size(rule, inner_sizes):
    """How wide and how high a box is by nature, whose boxes have these natural sizes."""
    return (natural_length(rule, inner_sizes, ACROSS), natural_length(rule, inner_sizes, DOWN))


def natural_length(rule, inner_sizes, direction):
    if rule.is_leaf():
        content = 0
    else:
        content = content_length(rule, [size[direction] for size in inner_sizes], direction)
    return min(max(rule.wish[direction], content), rule.most[direction])


def content_length(rule, naturals, direction):
    if len(naturals) == 0:
        return 2 * rule.pad
    if rule.is_along(direction):
        return sum(naturals) + all_gaps(rule, len(naturals)) + 2 * rule.pad
    return max(naturals) + 2 * rule.pad


def all_gaps(rule, many):
    return rule.gap * (many - 1)


def inner_places(rule, place, inner_rules, inner_sizes):
    """The places of the boxes in a box that has this rule and place; inner_sizes are their natural sizes."""
    across = inner_spans(rule, place, inner_rules, inner_sizes, ACROSS)
    down = inner_spans(rule, place, inner_rules, inner_sizes, DOWN)
    return [(across[k][0], down[k][0], across[k][1], down[k][1]) for k in range(len(inner_rules))]


def inner_spans(rule, place, inner_rules, inner_sizes, direction):
    room = room_in(rule, place, direction)
    naturals = [size[direction] for size in inner_sizes]
    if rule.is_along(direction):
        things = [thing_along(inner_rules[k], naturals[k], direction) for k in range(len(naturals))]
        return spans_along(rule, room, things)
    return [span_by_side(inner_rules[k], room, naturals[k], direction) for k in range(len(naturals))]


def room_in(rule, place, direction):
    begin = place[direction]
    size = place[2 + direction]
    return (begin + rule.pad, max(size - 2 * rule.pad, 0))


def thing_along(rule, natural, direction):
    return Thing(rule.least[direction], natural, rule.most[direction], rule.grow, rule.give)


def spans_along(rule, room, things):
    """One behind another, a gap between; rest tells where goes what the things leave over."""
    many = len(things)
    length = max(room[1] - all_gaps(rule, many), 0)
    lengths = shared_lengths(things, length)
    # Below 0 is what the things are too long by: it moves none of them.
    over = max(length - sum(lengths), 0)
    spans = []
    begin = room[0]
    for k in range(many):
        spans.append((begin + rest_before(rule.rest, over, k, many), lengths[k]))
        begin = begin + lengths[k] + rule.gap
    return spans


def rest_before(rest, over, k, many):
    """How much of what's over comes before box k of so many."""
    if rest == REST_HALF:
        return over // 2
    if rest == REST_BEFORE:
        return over
    if rest == REST_BEHIND or many == 1:
        return 0
    return k * over // (many - 1)


def span_by_side(rule, room, natural, direction):
    """Where a box stands the other way, and how long it is: by its own side."""
    if rule.side == SIDE_FILLS:
        return (room[0], min(max(room[1], rule.least[direction]), rule.most[direction]))
    if rule.side == SIDE_BEGINNING:
        return (room[0], natural)
    if rule.side == SIDE_MIDDLE:
        return (room[0] + (room[1] - natural) // 2, natural)
    return (room[0] + room[1] - natural, natural)
