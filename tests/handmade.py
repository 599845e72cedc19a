"""Roads, wishes and nets made by hand, for several tests."""

from crowdroads.nets import made_net
from drawn import written

NOUGHT = (0, 1)
ONE = (1, 1)
FREE = (NOUGHT, NOUGHT)
GROWS = (NOUGHT, ONE)
STAYS = (ONE, NOUGHT)


def road(start, end, kind, lane=False):
    return (start, end) + kind + (lane,)


def wish(start, end, amount=1, lane=False):
    return (start, end, written(amount), lane)


# Two ways from 0 to 3, over 1 and over 2, and a road across without any time.
ACROSS = made_net(4, [road(0, 1, GROWS), road(1, 3, STAYS), road(0, 2, STAYS), road(2, 3, GROWS), road(1, 2, FREE)])
# One road for all, beside a lane.
LANE = made_net(2, [road(0, 1, GROWS), road(0, 1, GROWS, True)])
# Ten ways over seven roads: whatever goes along the first two can be parted among the other five at will.
STEPS = made_net(3, [road(0, 1, GROWS)] * 2 + [road(1, 2, GROWS)] * 5)
# Rings over 0, 1 and 2 that take no time, and roads on to 3 and 4.
RINGS = made_net(5, [
    road(0, 1, FREE), road(1, 2, FREE), road(2, 0, FREE), road(1, 0, FREE), road(2, 1, FREE),
    road(2, 3, GROWS), road(1, 3, STAYS), road(3, 4, FREE),
])
