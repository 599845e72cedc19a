"""The least sum of times, the tolls that lead to it, and how far from it rest can be."""

from crowdroads.errors import NoNet
from crowdroads.flows import TWO, load_list, road_times
from crowdroads.fractions import NOUGHT, is_from_nought, product_of, rest_of, sum_of, sum_of_all
from crowdroads.rest import resting_share


def dear_road(road):
    return (road[0], road[1], road[2], product_of(TWO, road[3]), road[4])


def least_share(net, wishes):
    # With slopes twice as great, times are what dear times were: the least sum is rest by dear times.
    return resting_share((net[0], [dear_road(road) for road in net[1]]), wishes)


def toll_list(net, wishes):
    loads = load_list(net, least_share(net, wishes)[0])
    return [product_of(road[3], load) for road, load in zip(net[1], loads)]


def tolled_road(road, toll):
    return (road[0], road[1], sum_of(road[2], toll), road[3], road[4])


def tolled_net(net, tolls):
    if len(tolls) != len(net[1]):
        raise NoNet("there are not as many tolls as roads")
    for number, toll in enumerate(tolls):
        if not is_from_nought(toll):
            raise NoNet(f"toll {number} is no fraction from nought on")
    return (net[0], [tolled_road(road, toll) for road, toll in zip(net[1], tolls)])


def row_of(road, load, best_load):
    """base x + slope (x - 2 y) (x - 2 y), x being the one load and y the best one."""
    apart = rest_of(load, product_of(TWO, best_load))
    return sum_of(product_of(road[2], load), product_of(road[3], product_of(apart, apart)))


def lag_along(net, flow, times, heights):
    """The sum over the roads that a flow uses of flow by (height of its start + time - height of its end)."""
    parts = []
    for number, amount in enumerate(flow):
        # A road without flow may begin at a place without height.
        if amount != NOUGHT:
            road = net[1][number]
            over = rest_of(sum_of(heights[road[0]], times[number]), heights[road[1]])
            parts.append(product_of(amount, over))
    return sum_of_all(parts)


def four_thirds(net, wishes):
    rested = resting_share(net, wishes)
    rest = rested[0]
    best = least_share(net, wishes)[0]
    loads = load_list(net, rest)
    best_loads = load_list(net, best)
    rows = [row_of(road, load, best_load) for road, load, best_load in zip(net[1], loads, best_loads)]
    times = road_times(net, rest)
    lags = [lag_along(net, flow, times, heights) for flow, heights in zip(best, rested[1])]
    return (rest, best, rows, sum_of_all(lags))
