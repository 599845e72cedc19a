"""Wishes: from where to where how much wants to get, and the ways that lead there."""

from crowdroads.errors import NoWay, NoWish, TooMany
from crowdroads.fractions import is_above_nought
from crowdroads.nets import are_unlike_places

MOST_WISHES = 3
THINGS_OF_WISH = 4
MOST_WAYS = 10


def may_take(wish, road):
    return wish[3] or not road[4]


def roads_for(net, wish):
    """The numbers of the roads that a wish may take, rising."""
    return [number for number, road in enumerate(net[1]) if may_take(wish, road)]


def paths_on(net, numbers, passed, end):
    """All lists of roads that lead from the last place passed to an end, and come to no place passed.

    They are made of the numbers handed over. Where these rise, the paths are sorted: roads are tried in
    their order, and no path is the beginning of another one, as each stops where it first comes to the end.
    """
    here = passed[-1]
    if here == end:
        return [[]]
    found = []
    for number in numbers:
        road = net[1][number]
        if road[0] == here and road[1] not in passed:
            for path in paths_on(net, numbers, passed + [road[1]], end):
                found.append([number] + path)
    return found


def ways_of(net, wish):
    return paths_on(net, roads_for(net, wish), [wish[0]], wish[1])


def places_reached(net, wish):
    numbers = roads_for(net, wish)
    # From the start to itself leads the path of no roads, so it counts as reached.
    return [place for place in range(net[0]) if paths_on(net, numbers, [wish[0]], place) != []]


def wish_fault(many, wish):
    """What keeps a tuple from being a wish between so many places, in words; None of a wish."""
    if len(wish) != THINGS_OF_WISH:
        return "it has not four things"
    if not are_unlike_places(many, wish[0], wish[1]):
        return "its start and its end are not two unlike places"
    if not is_above_nought(wish[2]):
        return "its amount is no fraction above nought"
    if not isinstance(wish[3], bool):
        return "whether it may take lanes is told by no truth"
    return None


def check_forms(net, wishes):
    if not 1 <= len(wishes) <= MOST_WISHES:
        raise NoWish("the wishes are not one to three")
    for number, wish in enumerate(wishes):
        fault = wish_fault(net[0], wish)
        if fault is not None:
            raise NoWish(f"wish {number}: {fault}")


def ways_of_each(net, wishes):
    """The ways of each wish, in order; NoWay of the first that has none."""
    found = []
    for number, wish in enumerate(wishes):
        ways = ways_of(net, wish)
        if ways == []:
            raise NoWay(number, places_reached(net, wish))
        found.append(ways)
    return found


def check_ways(net, wishes):
    if sum([len(ways) for ways in ways_of_each(net, wishes)]) > MOST_WAYS:
        raise TooMany("all wishes together have more than ten ways")


def made_wishes(net, wishes):
    check_forms(net, wishes)
    check_ways(net, wishes)
    # The list is copied, so that the wishes don't hang on what their maker does with it later.
    return list(wishes)
