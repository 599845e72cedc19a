"""Rest: shares in which nobody's way could be made quicker by another one."""

from crowdroads.flows import road_times
from crowdroads.fractions import NOUGHT, rest_of, sum_of_all
from crowdroads.heights import height_list
from crowdroads.turning import complementary_amounts
from crowdroads.wishes import ways_of

ONE = (1, 1)


def numbered_ways(net, wishes):
    """Tuples (number of the wish, way), of all wishes in their order."""
    found = []
    for number, wish in enumerate(wishes):
        for way in ways_of(net, wish):
            found.append((number, way))
    return found


def base_along(net, way):
    return sum_of_all([net[1][number][2] for number in way])


def slope_shared(net, way, other):
    """By how much one way's time grows with what goes along another."""
    return sum_of_all([net[1][number][3] for number in way if number in other])


def way_row(net, ways, place, many):
    """What makes a way longer than its wish's time: the amounts of all ways, and less that time."""
    slopes = [slope_shared(net, ways[place][1], other[1]) for other in ways]
    return slopes + [(-1, 1) if number == ways[place][0] else NOUGHT for number in range(many)]


def wish_row(ways, number, many):
    """What makes the amounts of a wish's ways more than its own: these amounts, and no time."""
    return [ONE if way[0] == number else NOUGHT for way in ways] + [NOUGHT for other in range(many)]


def way_amounts(net, wishes, ways):
    """What goes along each way at rest.

    Where a wish's time is nought, the rows alone don't keep its amounts from coming to more than its own. But the
    turns end with equations that have just one solution, so there is nothing to cut: what is too much, and an amount
    on a way that takes no time however many go, stand in the same equation and in no other, and with both of them
    above nought it would be open how much each one is.
    """
    many = len(wishes)
    matrix = [way_row(net, ways, place, many) for place in range(len(ways))]
    offsets = [base_along(net, way[1]) for way in ways]
    for number, wish in enumerate(wishes):
        matrix.append(wish_row(ways, number, many))
        offsets.append(rest_of(NOUGHT, wish[2]))
    return complementary_amounts(matrix, offsets)[:len(ways)]


def flow_along(net, ways, amounts, number):
    """The flow of the wish of that number."""
    own = [(way[1], amount) for way, amount in zip(ways, amounts) if way[0] == number]
    flow = []
    for road_number in range(len(net[1])):
        flow.append(sum_of_all([amount for way, amount in own if road_number in way]))
    return flow


def resting_share(net, wishes):
    ways = numbered_ways(net, wishes)
    amounts = way_amounts(net, wishes, ways)
    share = [flow_along(net, ways, amounts, number) for number in range(len(wishes))]
    times = road_times(net, share)
    return (share, [height_list(net, wish, times) for wish in wishes])
