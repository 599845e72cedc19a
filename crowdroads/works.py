"""Works: roads opened, closed and widened, and what becomes of all who wish to get somewhere."""

from crowdroads.errors import NoNet, NoNumber, NoSuch
from crowdroads.fractions import is_above_nought, part_of
from crowdroads.nets import MOST_ROADS, is_number_of, road_fault
from crowdroads.rest import resting_share
from crowdroads.wishes import check_ways


def opened_net(net, road):
    if len(net[1]) >= MOST_ROADS:
        raise NoNet("there are twelve roads already")
    fault = road_fault(net[0], road)
    if fault is not None:
        raise NoNet(f"the new road: {fault}")
    return (net[0], net[1] + [road])


def check_road(net, number):
    if not is_number_of(len(net[1]), number):
        raise NoSuch("there is no road of that number")


def closed_net(net, number):
    check_road(net, number)
    return (net[0], net[1][:number] + net[1][number + 1:])


def widened_road(road, by):
    return (road[0], road[1], road[2], part_of(road[3], by), road[4])


def widened_net(net, number, by):
    check_road(net, number)
    if not is_above_nought(by):
        raise NoNumber("a road is widened by a fraction above nought")
    roads = list(net[1])
    roads[number] = widened_road(roads[number], by)
    return (net[0], roads)


def end_heights(net, wishes):
    """How long each wish takes at rest."""
    heights = resting_share(net, wishes)[1]
    return [own[wish[1]] for wish, own in zip(wishes, heights)]


def times_compared(net, other, wishes):
    check_ways(other, wishes)
    return list(zip(end_heights(net, wishes), end_heights(other, wishes)))
