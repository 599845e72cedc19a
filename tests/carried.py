"""Nets drawn with wishes that they can carry, other shares of these, and the sums by which shares are compared."""

import random
from fractions import Fraction

from crowdroads.errors import NoWay, TooMany
from crowdroads.wishes import made_wishes
from drawn import along, drawn_ring, paths, values, written


def noughts(draw):
    return Fraction(draw.choice((0, 0, 0, 1)))


def few(draw):
    return Fraction(draw.choice((0, 0, 1, 1, 2, 3)))


def small(draw):
    return draw.choice((0, 1, 1)) * Fraction(draw.randint(0, 12), draw.choice((1, 1, 2, 3, 7)))


def great(draw):
    return draw.choice((0, 1, 1, 1)) * Fraction(draw.randint(0, 10 ** 12 - 1), draw.choice((1, 2, 3, 7, 11, 13)))


def drawn_roads(draw, many, count, style, lanes):
    roads = []
    for unused in range(count):
        start, end = draw.sample(range(many), 2)
        roads.append((start, end, written(style(draw)), written(style(draw)), draw.random() < lanes))
    return roads


def drawn_wishes(draw, many, count, style):
    wishes = []
    for unused in range(count):
        start, end = draw.sample(range(many), 2)
        amount = Fraction(draw.randint(1, 10 ** 6 - 1 if style == great else 5), draw.choice((1, 1, 2, 3)))
        if style in (noughts, few):
            amount = Fraction(draw.randint(1, 2))
        wishes.append((start, end, written(amount), draw.random() < 0.5))
        if draw.random() < 0.3:
            wishes[-1] = wishes[0]
    return wishes


def drawn_carried(seed, count, style, most_wishes=3, fewest_ways=1):
    """Tuples (net, wishes), of up to six places and twelve roads, and with up to ten ways in all."""
    draw = random.Random(seed)
    found = []
    while len(found) < count:
        many = draw.randint(2, 6)
        net = (many, drawn_roads(draw, many, draw.randint(1, 12), style, draw.choice((0, 0.2, 0.5))))
        wishes = drawn_wishes(draw, many, draw.randint(1, most_wishes), style)
        try:
            made_wishes(net, wishes)
        except (NoWay, TooMany):
            continue
        if sum(len(paths(net, wish)) for wish in wishes) >= fewest_ways:
            found.append((net, wishes))
    return found


def drawn_other(draw, net, wishes):
    """A share of the wishes along any ways, with rings at places that the wish gets to."""
    share = []
    for start, end, amount, lane in wishes:
        ways = paths(net, (start, end, amount, lane))
        weights = [(way, draw.randint(1, 5)) for way in draw.sample(ways, draw.randint(1, len(ways)))]
        part = Fraction(*amount) / sum(weight for way, weight in weights)
        rows = [(way, weight * part) for way, weight in weights]
        ring = drawn_ring(draw, net, lane, start)
        if ring is not None and draw.random() < 0.3:
            rows.append((ring, part))
        share.append(along(net, rows))
    return share


def loads_of(share):
    return [sum(amounts) for amounts in zip(*map(values, share))]


def squares(net, loads, others):
    """The sum over all roads of slope by the square of what two loads differ by."""
    return sum(Fraction(*road[3]) * (one - other) ** 2 for road, one, other in zip(net[1], loads, others))


def lying_over(net, share, times, heights):
    """The sum over all wishes and the roads that they use of flow by (height of start + time - height of end)."""
    whole = Fraction(0)
    for flow, own in zip(share, map(values, heights)):
        for (start, end, base, slope, lane), amount, time in zip(net[1], values(flow), values(times)):
            if amount != 0:
                whole += amount * (own[start] + time - own[end])
    return whole
