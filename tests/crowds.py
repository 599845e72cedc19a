"""Crowds drawn from fixed seeds, and the sums of a crowd made anew with Python's own fractions."""

import random
from fractions import Fraction

from carried import drawn_roads
from crowdroads.crowd import Crowd
from drawn import paths, written


def own_ways(net, traveller):
    start, end, lane = traveller
    return paths(net, (start, end, (1, 1), lane))


def drawn_travellers(draw, many, count):
    travellers = []
    for unused in range(count):
        start, end = draw.sample(range(many), 2)
        travellers.append((start, end, draw.random() < 0.5))
        if draw.random() < 0.5:
            travellers[-1] = draw.choice(travellers)
    return travellers


def drawn_step(draw, net, style):
    count = draw.choice((1, 2, 2, 3, 3, 4, 5, 6, 7, 10 ** 17))
    return (draw.randrange(len(net[1])), count, written(style(draw)))


def drawn_crowds(seed, count, style, most_steps=12, fewest_ways=1):
    """Tuples (net, travellers, steps); of each traveller one to six ways, of all together so many or more."""
    draw = random.Random(seed)
    found = []
    while len(found) < count:
        many = draw.randint(2, 6)
        net = (many, drawn_roads(draw, many, draw.randint(1, 12), style, draw.choice((0, 0.2, 0.5))))
        travellers = drawn_travellers(draw, many, draw.randint(1, 6))
        steps = [drawn_step(draw, net, style) for unused in range(draw.randint(0, most_steps))]
        ways = [len(own_ways(net, traveller)) for traveller in travellers]
        if min(ways) >= 1 and max(ways) <= 6 and sum(ways) >= fewest_ways:
            found.append((net, travellers, steps))
    return found


class Plain:
    """The sums of [18] and [19], for whatever ways are chosen: a list with a number for each traveller."""

    def __init__(self, net, travellers, steps):
        self.net = net
        self.steps = steps
        self.ways = [own_ways(net, traveller) for traveller in travellers]

    def drawn_choice(self, draw):
        return [draw.randrange(len(ways)) for ways in self.ways]

    def time_with(self, number, count):
        start, end, base, slope, lane = self.net[1][number]
        time = Fraction(*base) + Fraction(*slope) * count
        return time + sum(Fraction(*more) for road, least, more in self.steps if road == number and least <= count)

    def counts(self, chosen):
        counts = [0] * len(self.net[1])
        for ways, place in zip(self.ways, chosen):
            for number in ways[place]:
                counts[number] += 1
        return counts

    def time_of(self, chosen, traveller):
        counts = self.counts(chosen)
        return sum(self.time_with(number, counts[number]) for number in self.ways[traveller][chosen[traveller]])

    def gains(self, chosen, traveller):
        others = [chosen[:traveller] + [place] + chosen[traveller + 1:] for place in range(len(self.ways[traveller]))]
        return [self.time_of(chosen, traveller) - self.time_of(other, traveller) for other in others]

    def all_gains(self, chosen):
        return [self.gains(chosen, traveller) for traveller in range(len(chosen))]

    def whole(self, chosen):
        return sum(self.time_of(chosen, traveller) for traveller in range(len(chosen)))

    def told(self, chosen):
        counts = self.counts(chosen)
        return sum(self.time_with(number, k + 1) for number, count in enumerate(counts) for k in range(count))

    def all_told(self, chosen):
        """All that a crowd is to tell with such ways taken, in the form of all_told_by."""
        many = len(chosen)
        gains = self.all_gains(chosen)
        return {
            "ways": self.ways,
            "taken": chosen,
            "times": [written(self.time_of(chosen, traveller)) for traveller in range(many)],
            "gains": [[written(gain) for gain in row] for row in gains],
            "told": written(self.told(chosen)),
            "whole": written(self.whole(chosen)),
            "rests": all(gain <= 0 for row in gains for gain in row),
        }


def all_told_by(crowd):
    many = len(crowd.taken())
    return {
        "ways": [crowd.ways(traveller) for traveller in range(many)],
        "taken": crowd.taken(),
        "times": [crowd.time_of(traveller) for traveller in range(many)],
        "gains": [crowd.gains(traveller) for traveller in range(many)],
        "told": crowd.told(),
        "whole": crowd.whole(),
        "rests": crowd.rests(),
    }


def sent(net, travellers, steps, chosen):
    """A crowd with chosen ways taken."""
    crowd = Crowd(net, travellers, steps)
    for traveller, number in enumerate(chosen):
        crowd.go(traveller, number)
    return crowd


# Come upon by a search: settled by the wary mood from its first ways on, it takes 305 changes.
LONG = (
    (5, [
        (1, 2, (359000, 1), (0, 1), True),
        (1, 4, (170, 1), (0, 1), False),
        (3, 1, (70, 1), (80, 1), False),
        (3, 0, (0, 1), (0, 1), True),
        (3, 1, (0, 1), (210, 1), False),
        (0, 4, (1, 1), (1, 1), False),
        (4, 2, (0, 1), (20, 1), False),
        (4, 3, (0, 1), (1000, 1), False),
        (2, 4, (7000, 1), (0, 1), False),
        (2, 3, (0, 1), (2, 1), False),
        (1, 2, (118, 1), (50, 1), False),
        (1, 0, (0, 1), (0, 1), False),
    ]),
    [(3, 2, False), (4, 0, True), (1, 4, True), (1, 4, True), (1, 4, True), (1, 4, True)],
    [(3, 2, (1000, 1)), (9, 2, (5000, 1)), (11, 2, (177, 1))],
)
