"""Nets: places, and the roads between them."""

from crowdroads.errors import NoNet
from crowdroads.fractions import is_from_nought, is_whole

FEWEST_PLACES = 2
MOST_PLACES = 6
MOST_ROADS = 12
THINGS_OF_ROAD = 5


def is_number_of(many, thing):
    """Whether a thing is the number of one of so many, numbered from 0."""
    return is_whole(thing) and 0 <= thing < many


def are_unlike_places(many, start, end):
    return is_number_of(many, start) and is_number_of(many, end) and start != end


def road_fault(many, road):
    """What keeps a tuple from being a road between so many places, in words; None of a road."""
    if len(road) != THINGS_OF_ROAD:
        return "it has not five things"
    if not are_unlike_places(many, road[0], road[1]):
        return "its start and its end are not two unlike places"
    if not is_from_nought(road[2]):
        return "its base is no fraction from nought on"
    if not is_from_nought(road[3]):
        return "its slope is no fraction from nought on"
    if not isinstance(road[4], bool):
        return "whether it is a lane is told by no truth"
    return None


def made_net(many, roads):
    if not (is_whole(many) and FEWEST_PLACES <= many <= MOST_PLACES):
        raise NoNet("the places are not two to six")
    if len(roads) > MOST_ROADS:
        raise NoNet("there are more than twelve roads")
    for number, road in enumerate(roads):
        fault = road_fault(many, road)
        if fault is not None:
            raise NoNet(f"road {number}: {fault}")
    # The list is copied, so that the net doesn't hang on what its maker does with it later.
    return (many, list(roads))
