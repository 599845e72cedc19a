"""Flows told apart into ways and rings, and flows without their rings."""

from crowdroads.errors import NoShare
from crowdroads.flows import is_flow
from crowdroads.fractions import NOUGHT, least_of, rest_of
from crowdroads.wishes import paths_on, ways_of


def roads_used(flow):
    return [number for number, amount in enumerate(flow) if amount != NOUGHT]


def rings_on(net, numbers):
    """All rings made of the numbers of roads handed over, which rise; sorted."""
    found = []
    for number in numbers:
        road = net[1][number]
        # With greater numbers alone behind it, each ring is found once, from its least number on.
        greater = [other for other in numbers if other > number]
        for path in paths_on(net, greater, [road[1]], road[0]):
            found.append([number] + path)
    return found


def less_along(flow, row, amount):
    """A flow with an amount less on each road of a row."""
    left = list(flow)
    for number in row:
        left[number] = rest_of(left[number], amount)
    return left


def taken_off(flow, rows):
    """A tuple: what each row of roads takes off a flow, one after another, and the flow that is left.

    The first is a list of tuples (row, amount), without rows that find nothing to take. Each takes as much as
    it can, and so leaves nought on one road more: no row comes twice, and they are no more than the roads used.
    """
    parts = []
    left = list(flow)
    for row in rows:
        amount = least_of([left[number] for number in row])
        if amount != NOUGHT:
            parts.append((row, amount))
            left = less_along(left, row, amount)
    return (parts, left)


def rings_taken_off(net, wish, flow):
    if not is_flow(net, wish, flow):
        raise NoShare("what was handed over is no flow of the wish")
    return taken_off(flow, rings_on(net, roads_used(flow)))


def told_apart(net, wish, flow):
    # Rings go first: in what they leave nothing goes round, so all of it goes along ways.
    rings = rings_taken_off(net, wish, flow)
    ways = taken_off(rings[1], ways_of(net, wish))
    return (ways[0], rings[0])


def without_rings(net, wish, flow):
    return rings_taken_off(net, wish, flow)[1]
