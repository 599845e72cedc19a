"""Crowds: travellers one by one, each along one of its ways."""

from crowdroads.errors import NoStep, NoSuch, NoWish, TooMany
from crowdroads.flows import time_with
from crowdroads.fractions import NOUGHT, is_from_nought, is_less, is_whole, rest_of, sum_of, sum_of_all
from crowdroads.moods import Keen
from crowdroads.nets import is_number_of
from crowdroads.wishes import ways_of_each, wish_fault

MOST_TRAVELLERS = 6
THINGS_OF_TRAVELLER = 3
MOST_WAYS_OF_ONE = 6
MOST_STEPS = 12
THINGS_OF_STEP = 3
MOST_CHANGES = 300


def as_wish(traveller):
    """The wish that has a traveller's ways; its amount is one, as one goes."""
    return (traveller[0], traveller[1], (1, 1), traveller[2])


def traveller_fault(many, traveller):
    """What keeps a tuple from being a traveller between so many places, in words; None of a traveller."""
    if len(traveller) != THINGS_OF_TRAVELLER:
        return "it has not three things"
    return wish_fault(many, as_wish(traveller))


def check_travellers(net, travellers):
    if not 1 <= len(travellers) <= MOST_TRAVELLERS:
        raise NoWish("the travellers are not one to six")
    for number, traveller in enumerate(travellers):
        fault = traveller_fault(net[0], traveller)
        if fault is not None:
            raise NoWish(f"traveller {number}: {fault}")


def step_fault(many, step):
    """What keeps a tuple from being a step on one of so many roads, in words; None of a step."""
    if len(step) != THINGS_OF_STEP:
        return "it has not three things"
    if not is_number_of(many, step[0]):
        return "there is no road of that number"
    if not (is_whole(step[1]) and step[1] >= 1):
        return "its count is no whole number from 1 on"
    if not is_from_nought(step[2]):
        return "its time is no fraction from nought on"
    return None


def check_steps(net, steps):
    if len(steps) > MOST_STEPS:
        raise NoStep("there are more than twelve steps")
    for number, step in enumerate(steps):
        fault = step_fault(len(net[1]), step)
        if fault is not None:
            raise NoStep(f"step {number}: {fault}")


def ways_of_travellers(net, travellers):
    found = ways_of_each(net, [as_wish(traveller) for traveller in travellers])
    for number, ways in enumerate(found):
        if len(ways) > MOST_WAYS_OF_ONE:
            raise TooMany(f"traveller {number} has more than six ways")
    return found


def time_with_steps(net, steps, number, count):
    """The time of the road of that number with so many travellers on it."""
    due = [step[2] for step in steps if step[0] == number and step[1] <= count]
    return sum_of(time_with(net[1][number], (count, 1)), sum_of_all(due))


def times_by_count(net, steps, number, most):
    """The times of a road with none, one and so on up to the most travellers."""
    return [time_with_steps(net, steps, number, count) for count in range(most + 1)]


class Crowd:
    """Travellers on a net, with the way that each of them goes along.

    It keeps each traveller's ways, each road's times by how many go along it, and the number of each one's way;
    of the lists that it was made from it keeps none.
    """

    def __init__(self, net, travellers, steps=None):
        if steps is None:
            steps = []
        check_travellers(net, travellers)
        check_steps(net, steps)
        self.way_lists = ways_of_travellers(net, travellers)
        self.times = [times_by_count(net, steps, number, len(travellers)) for number in range(len(net[1]))]
        self.chosen = [0 for traveller in travellers]

    def check_traveller(self, traveller):
        if not is_number_of(len(self.way_lists), traveller):
            raise NoSuch("there is no traveller of that number")

    def count_list(self, chosen):
        """How many go along each road, where each traveller goes along its chosen way."""
        counts = [0 for times in self.times]
        for ways, number in zip(self.way_lists, chosen):
            for road in ways[number]:
                counts[road] = counts[road] + 1
        return counts

    def time_by(self, chosen, traveller):
        counts = self.count_list(chosen)
        way = self.way_lists[traveller][chosen[traveller]]
        return sum_of_all([self.times[road][counts[road]] for road in way])

    def gains_by(self, chosen, traveller):
        now = self.time_by(chosen, traveller)
        found = []
        for number in range(len(self.way_lists[traveller])):
            other = list(chosen)
            other[traveller] = number
            found.append(rest_of(now, self.time_by(other, traveller)))
        return found

    def first_to_gain(self, chosen):
        """The first traveller who gains by some way; None where nobody does."""
        for traveller in range(len(chosen)):
            if any([is_less(NOUGHT, gain) for gain in self.gains_by(chosen, traveller)]):
                return traveller
        return None

    def ways(self, traveller):
        self.check_traveller(traveller)
        return [list(way) for way in self.way_lists[traveller]]

    def taken(self):
        return list(self.chosen)

    def go(self, traveller, number):
        self.check_traveller(traveller)
        if not is_number_of(len(self.way_lists[traveller]), number):
            raise NoSuch("the traveller has no way of that number")
        self.chosen[traveller] = number

    def time_of(self, traveller):
        self.check_traveller(traveller)
        return self.time_by(self.chosen, traveller)

    def gains(self, traveller):
        self.check_traveller(traveller)
        return self.gains_by(self.chosen, traveller)

    def told(self):
        counts = self.count_list(self.chosen)
        return sum_of_all([sum_of_all(times[1:count + 1]) for times, count in zip(self.times, counts)])

    def whole(self):
        return sum_of_all([self.time_by(self.chosen, traveller) for traveller in range(len(self.chosen))])

    def rests(self):
        return self.first_to_gain(self.chosen) is None

    def settle(self, mood=None):
        if mood is None:
            mood = Keen()
        # The changes are made on a copy, so that a refusal leaves everybody on the old way.
        chosen = list(self.chosen)
        changes = []
        traveller = self.first_to_gain(chosen)
        while traveller is not None:
            if len(changes) == MOST_CHANGES:
                raise TooMany("the settling takes more than three hundred changes")
            gains = self.gains_by(chosen, traveller)
            new = mood.pick(gains)
            changes.append((traveller, chosen[traveller], new, gains[new]))
            chosen[traveller] = new
            traveller = self.first_to_gain(chosen)
        self.chosen = chosen
        return changes
