"""Flows and shares: what goes along the roads, and the times that come of it."""

from crowdroads.errors import NoShare
from crowdroads.fractions import NOUGHT, is_from_nought, is_less, product_of, rest_of, sum_of, sum_of_all
from crowdroads.heights import height_list
from crowdroads.wishes import may_take

HALF = (1, 2)
TWO = (2, 1)


def fits_road(wish, road, thing):
    """Whether a thing is what a flow of the wish may have on a road."""
    return is_from_nought(thing) and (thing == NOUGHT or may_take(wish, road))


def more_going_out(net, flow, place):
    """What goes out at a place, less what comes in."""
    going = [amount for road, amount in zip(net[1], flow) if road[0] == place]
    coming = [amount for road, amount in zip(net[1], flow) if road[1] == place]
    return rest_of(sum_of_all(going), sum_of_all(coming))


def more_wished_out(wish, place):
    """What a wish asks to go out at a place, less what comes in."""
    if place == wish[0]:
        return wish[2]
    if place == wish[1]:
        return rest_of(NOUGHT, wish[2])
    return NOUGHT


def is_flow(net, wish, things):
    """Whether a list of things is a flow of the wish."""
    if len(things) != len(net[1]):
        return False
    if not all([fits_road(wish, road, thing) for road, thing in zip(net[1], things)]):
        return False
    return all([more_going_out(net, things, place) == more_wished_out(wish, place) for place in range(net[0])])


def share_fits(net, wishes, share):
    if len(share) != len(wishes):
        return False
    return all([is_flow(net, wish, flow) for wish, flow in zip(wishes, share)])


def load_list(net, share):
    loads = []
    for number in range(len(net[1])):
        loads.append(sum_of_all([flow[number] for flow in share]))
    return loads


def time_with(road, load):
    return sum_of(road[2], product_of(road[3], load))


def road_times(net, share):
    return [time_with(road, load) for road, load in zip(net[1], load_list(net, share))]


def dear_times(net, share):
    # base + slope by twice the load is base + 2 slope x.
    return [time_with(road, product_of(TWO, load)) for road, load in zip(net[1], load_list(net, share))]


def sum_of_times(net, share):
    loads = load_list(net, share)
    return sum_of_all([product_of(load, time_with(road, load)) for road, load in zip(net[1], loads)])


def told_number(net, share):
    # x by (base + slope by half of x) is base x + half slope x x.
    loads = load_list(net, share)
    return sum_of_all([product_of(load, time_with(road, product_of(HALF, load))) for road, load in zip(net[1], loads)])


def lies_over(road, time, heights):
    height = heights[road[0]]
    if height is None:
        return True
    return is_less(heights[road[1]], sum_of(height, time))


def roads_over(net, wishes, share, times=None):
    if not share_fits(net, wishes, share):
        raise NoShare("what was handed over is no share of the wishes")
    if times is None:
        times = road_times(net, share)
    found = []
    for wish_number, wish in enumerate(wishes):
        heights = height_list(net, wish, times)
        for number, road in enumerate(net[1]):
            if share[wish_number][number] != NOUGHT and lies_over(road, times[number], heights):
                found.append((wish_number, number))
    return found
