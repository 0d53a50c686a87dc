"""What's left, shared out: things that stand in a row are made to fill a length, each near its fair share."""


class Thing:
    """One thing of the row; least is not above wish, wish not above most."""

    def __init__(self, least, wish, most, grow, give):
        self.least = least
        self.wish = wish
        self.most = most
        self.grow = grow
        self.give = give


def shared_lengths(things, length):
    """How long each thing is made; together they are the length, where their weights and bounds let them be."""
    wishes = [thing.wish for thing in things]
    left = length - sum(wishes)
    if left > 0:
        weights = [thing.grow for thing in things]
        spans = [thing.most - thing.wish if thing.grow > 0 else 0 for thing in things]
        return changed_lengths(wishes, 1, fair_parts(spans, weights, left))
    if left < 0:
        weights = [thing.give for thing in things]
        spans = [thing.wish - thing.least if thing.give > 0 else 0 for thing in things]
        return changed_lengths(wishes, -1, fair_parts(spans, weights, -left))
    return wishes


def fair_parts(spans, weights, amount):
    """The fair part of the amount that each takes, none more than its span: numerators, and what they are over.

    One with a weight of 0 is handed in with a span of 0.
    """
    free = list(range(len(spans)))
    left = amount
    weight = sum(weights)
    full = full_ones(free, spans, weights, left, weight)
    # What is full at the t of one round stays full: the t of the next is not less.
    while len(full) > 0:
        free = [k for k in free if k not in full]
        left = left - sum([spans[k] for k in full])
        weight = weight - sum([weights[k] for k in full])
        full = full_ones(free, spans, weights, left, weight)
    # With none free all parts are whole, and any number above 0 will do.
    below = weight if len(free) > 0 else 1
    parts = [span * below for span in spans]
    for k in free:
        parts[k] = left * weights[k]
    return (parts, below)


def full_ones(free, spans, weights, left, weight):
    """Those of the free ones that t, which is left by weight, brings to their span."""
    return [k for k in free if left * weights[k] >= spans[k] * weight]


def changed_lengths(wishes, sign, fair):
    """Whole lengths for wishes that take on (sign 1) or give (sign -1) fair parts, between edges rounded down."""
    parts = fair[0]
    below = fair[1]
    lengths = []
    together = 0
    edge = 0
    for k in range(len(wishes)):
        together = together + wishes[k] * below + sign * parts[k]
        lengths.append(together // below - edge)
        edge = together // below
    return lengths
