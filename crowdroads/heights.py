"""Heights: the least time in which a wish gets to each place."""

from crowdroads.fractions import NOUGHT, is_less, sum_of
from crowdroads.wishes import roads_for


def height_by(height, time):
    """The height at a road's end, come to along that road alone; None where its start has none."""
    if height is None:
        return None
    return sum_of(height, time)


def lower_of(height, other):
    if height is None:
        return other
    if other is None or not is_less(other, height):
        return height
    return other


def height_list(net, wish, times):
    heights = [None for place in range(net[0])]
    heights[wish[0]] = NOUGHT
    numbers = roads_for(net, wish)
    # As no time is below nought, a least sum needs no place twice, so no more roads than other places.
    for count in range(net[0] - 1):
        for number in numbers:
            road = net[1][number]
            heights[road[1]] = lower_of(heights[road[1]], height_by(heights[road[0]], times[number]))
    return heights
