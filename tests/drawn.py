"""Nets, wishes and flows drawn from fixed seeds, and plain looks at them to hold answers against."""

import random
from fractions import Fraction
from itertools import product


def written(value):
    """A number or one of Python's own exact fractions, as it is to be written here."""
    value = Fraction(value)
    return (value.numerator, value.denominator)


def values(fractions):
    return [None if thing is None else Fraction(*thing) for thing in fractions]


def drawn_amount(draw):
    return Fraction(draw.randint(1, 12), draw.choice((1, 1, 2, 3, 7)))


def drawn_road(draw, many):
    start, end = draw.sample(range(many), 2)
    base = written(draw.choice((0, drawn_amount(draw))))
    slope = written(draw.choice((0, drawn_amount(draw))))
    return (start, end, base, slope, draw.random() < 0.3)


def drawn_net(draw, many=None, count=None):
    many = many or draw.randint(2, 6)
    count = draw.randint(0, 12) if count is None else count
    return (many, [drawn_road(draw, many) for unused in range(count)])


def drawn_wish(draw, many):
    start, end = draw.sample(range(many), 2)
    return (start, end, written(drawn_amount(draw)), draw.random() < 0.5)


def drawn_nets(seed, count):
    """Nets of all sizes, each with one wish that it may carry or not."""
    draw = random.Random(seed)
    found = []
    for unused in range(count):
        net = drawn_net(draw)
        found.append((net, drawn_wish(draw, net[0])))
    return found


def is_way(net, wish, row):
    roads = [net[1][number] for number in row]
    if not roads or any(road[4] and not wish[3] for road in roads):
        return False
    places = [wish[0]] + [road[1] for road in roads]
    follow = [road[0] for road in roads] == places[:-1]
    return follow and places[-1] == wish[1] and len(set(places)) == len(places)


def is_ring(net, row):
    roads = [net[1][number] for number in row]
    starts = [road[0] for road in roads]
    ends = [road[1] for road in roads]
    return len(row) > 0 and ends == starts[1:] + starts[:1] and len(set(starts)) == len(starts)


def plain_ways(net, wish):
    """The ways of a wish, out of all lists of roads; more roads than places come to a place twice."""
    roads = net[1]
    found = []
    for length in range(1, net[0]):
        for row in product(range(len(roads)), repeat=length):
            if roads[row[0]][0] == wish[0] and roads[row[-1]][1] == wish[1] and is_way(net, wish, row):
                found.append(list(row))
    return sorted(found)


def drawn_ring(draw, net, lane, here=None):
    """A ring come upon by wandering about, from here or from anywhere; None where the wandering comes to an end."""
    here = draw.randrange(net[0]) if here is None else here
    passed = [here]
    row = []
    while True:
        onward = [k for k, road in enumerate(net[1]) if road[0] == here and (lane or not road[4])]
        if not onward:
            return None
        row.append(draw.choice(onward))
        here = net[1][row[-1]][1]
        if here in passed:
            return row[passed.index(here):]
        passed.append(here)


def along(net, rows):
    """The flow of some tuples (list of roads, amount)."""
    flow = [Fraction(0) for road in net[1]]
    for row, amount in rows:
        for number in row:
            flow[number] += amount
    return [written(amount) for amount in flow]


def drawn_flow(draw, net, wish, ways, rings):
    """A wish of the same places with an amount of its own, and a flow of it with up to so many rings."""
    rows = [(way, drawn_amount(draw)) for way in draw.sample(ways, draw.randint(1, len(ways)))]
    amount = sum(part for way, part in rows)
    for unused in range(rings):
        ring = drawn_ring(draw, net, wish[3])
        if ring is not None:
            rows.append((ring, drawn_amount(draw)))
    return (wish[0], wish[1], written(amount), wish[3]), along(net, rows)


def drawn_flows(seed, count):
    """Tuples (net, wish, flow)."""
    draw = random.Random(seed)
    found = []
    while len(found) < count:
        net = drawn_net(draw, count=draw.randint(1, 12))
        wish = drawn_wish(draw, net[0])
        ways = paths(net, wish)
        if ways:
            found.append((net,) + drawn_flow(draw, net, wish, ways, draw.randint(0, 6)))
    return found


def drawn_shares(seed, count):
    """Tuples (net, wishes, share)."""
    draw = random.Random(seed)
    found = []
    while len(found) < count:
        net = drawn_net(draw, count=draw.randint(3, 12))
        wishes = [drawn_wish(draw, net[0]) for unused in range(draw.randint(1, 3))]
        ways = [paths(net, wish) for wish in wishes]
        if all(ways):
            pairs = [drawn_flow(draw, net, wish, own, draw.randint(0, 2)) for wish, own in zip(wishes, ways)]
            found.append((net, [wish for wish, flow in pairs], [flow for wish, flow in pairs]))
    return found


def paths(net, wish):
    """The ways of a wish, quicker than plain_ways, road by road."""
    found = []
    rows = [[]]
    while rows:
        rows = [row + [number] for row in rows for number in range(len(net[1]))]
        rows = [row for row in rows if is_way(net, (wish[0], net[1][row[-1]][1], wish[2], wish[3]), row)]
        found += [row for row in rows if net[1][row[-1]][1] == wish[1]]
    return sorted(found)


def plain_heights(net, wish, times):
    """The least over all ways to each place."""
    found = []
    for place in range(net[0]):
        if place == wish[0]:
            found.append((0, 1))
            continue
        sums = [sum(Fraction(*times[k]) for k in way) for way in paths(net, (wish[0], place, wish[2], wish[3]))]
        found.append(written(min(sums)) if sums else None)
    return found


def goes_round(net, flow):
    """Whether some ring has flow on all of its roads: whether roads are left when all dead ends are gone."""
    left = [road for road, amount in zip(net[1], flow) if amount != (0, 1)]
    while True:
        starts = [road[0] for road in left]
        kept = [road for road in left if road[1] in starts]
        if len(kept) == len(left):
            return len(left) > 0
        left = kept


def plain_fits(net, wish, flow):
    """Whether a list of right length with right fractions is a flow of the wish, told by [9]."""
    amounts = values(flow)
    if any(amount < 0 for amount in amounts):
        return False
    if any(amount > 0 and road[4] and not wish[3] for road, amount in zip(net[1], amounts)):
        return False
    due = [Fraction(0)] * net[0]
    due[wish[0]] = Fraction(*wish[2])
    due[wish[1]] = -Fraction(*wish[2])
    for road, amount in zip(net[1], amounts):
        due[road[0]] -= amount
        due[road[1]] += amount
    return not any(due)
