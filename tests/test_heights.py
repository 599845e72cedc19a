import copy
import random
import unittest

from crowdroads.heights import height_list
from crowdroads.nets import made_net
from drawn import drawn_amount, drawn_net, drawn_wish, plain_heights, written
from samples import whole

NOUGHT = (0, 1)
GREAT = 10 ** 18 - 1


def road(start, end, lane=False):
    # Bases and slopes that no height hangs on: the times are handed over.
    return (start, end, (1000, 1), (1000, 1), lane)


class HeightListTest(unittest.TestCase):
    """[8]: the heights of a wish, by times."""

    def check_heights(self, net, wish, times, heights):
        told = height_list(net, wish, times)
        self.assertEqual(told, heights)
        self.assertIs(type(told), list)
        for height in told:
            self.assertIn(type(height), (tuple, type(None)))

    def test_one_road(self):
        net = made_net(2, [road(0, 1)])
        self.check_heights(net, (0, 1, (1, 1), False), [(3, 2)], [NOUGHT, (3, 2)])

    def test_nought_at_the_start_also_where_roads_lead_back(self):
        net = made_net(3, [road(1, 2), road(2, 1), road(2, 0), road(0, 1)])
        self.check_heights(net, (1, 2, (1, 1), False), whole(4, 0, 1, 2), [(5, 1), NOUGHT, (4, 1)])
        self.check_heights(net, (1, 2, (1, 1), False), whole(0, 0, 0, 0), [NOUGHT] * 3)

    def test_none_where_nothing_leads(self):
        net = made_net(6, [road(0, 1), road(2, 0), road(3, 4), road(4, 3), road(3, 1)])
        heights = [NOUGHT, (1, 1), None, None, None, None]
        self.check_heights(net, (0, 1, (1, 1), True), whole(1, 1, 1, 1, 1), heights)

    def test_a_place_without_height_lowers_none(self):
        net = made_net(4, [road(3, 1), road(0, 2), road(2, 1)])
        self.check_heights(net, (0, 1, (1, 1), False), whole(0, 2, 3), [NOUGHT, (5, 1), (2, 1), None])

    def test_the_least_of_several_ways(self):
        net = made_net(3, [road(0, 2), road(0, 1), road(1, 2)])
        wish = (0, 2, (1, 1), False)
        self.check_heights(net, wish, whole(5, 2, 2), [NOUGHT, (2, 1), (4, 1)])
        self.check_heights(net, wish, whole(3, 2, 2), [NOUGHT, (2, 1), (3, 1)])
        self.check_heights(net, wish, whole(4, 2, 2), [NOUGHT, (2, 1), (4, 1)])
        self.check_heights(net, wish, [(1, 2), (1, 3), (1, 7)], [NOUGHT, (1, 3), (10, 21)])

    def test_roads_alike(self):
        net = made_net(2, [road(0, 1)] * 4)
        self.check_heights(net, (0, 1, (1, 1), False), whole(3, 1, 2, 1), [NOUGHT, (1, 1)])

    def test_lanes(self):
        net = made_net(4, [road(0, 1), road(0, 1, True), road(1, 2), road(1, 3, True), road(2, 0)])
        times = whole(5, 1, 1, 1, 0)
        self.check_heights(net, (0, 2, (1, 1), False), times, [NOUGHT, (5, 1), (6, 1), None])
        self.check_heights(net, (0, 2, (1, 1), True), times, [NOUGHT, (1, 1), (2, 1), (2, 1)])

    def test_times_of_nought_and_rings(self):
        net = made_net(4, [road(0, 1), road(1, 2), road(2, 1), road(2, 3), road(3, 0)])
        wish = (0, 3, (1, 1), False)
        self.check_heights(net, wish, whole(0, 0, 0, 0, 0), [NOUGHT] * 4)
        self.check_heights(net, wish, whole(2, 0, 0, 1, 0), [NOUGHT, (2, 1), (2, 1), (3, 1)])

    def test_roads_against_their_order(self):
        net = made_net(6, [road(k, k + 1) for k in (4, 3, 2, 1, 0)] + [road(0, 5)])
        heights = [NOUGHT] + whole(1, 2, 3, 4, 5)
        self.check_heights(net, (0, 5, (1, 1), False), whole(1, 1, 1, 1, 1, 9), heights)

    def test_heights_that_fall_late(self):
        chain = [road(k, k + 1) for k in (4, 3, 2, 1, 0)]
        net = made_net(6, chain + [road(0, k) for k in (2, 3, 4, 5)])
        heights = [NOUGHT] + whole(1, 2, 3, 4, 5)
        self.check_heights(net, (0, 5, (1, 1), False), whole(1, 1, 1, 1, 1, 8, 8, 8, 8), heights)

    def test_no_roads(self):
        self.check_heights(made_net(3, []), (1, 2, (1, 1), True), [], [None, NOUGHT, None])

    def test_great_times(self):
        net = made_net(3, [road(0, 1), road(1, 2), road(0, 2)])
        wish = (0, 2, (1, 1), False)
        times = [(GREAT, 1), (GREAT, GREAT - 1), (2 * GREAT, 1)]
        end = (GREAT * (GREAT - 1) + GREAT, GREAT - 1)
        self.check_heights(net, wish, times, [NOUGHT, (GREAT, 1), end])
        times = [(1, GREAT), (1, GREAT - 1), (2, GREAT)]
        self.check_heights(net, wish, times, [NOUGHT, (1, GREAT), (2, GREAT)])

    def test_roads_and_amount_make_no_difference(self):
        times = whole(2, 3)
        for base in (NOUGHT, (9, 1)):
            net = made_net(3, [(0, 1, base, base, False), (1, 2, base, base, False)])
            for amount in ((1, GREAT), (GREAT, 1)):
                self.check_heights(net, (0, 2, amount, False), times, [NOUGHT, (2, 1), (5, 1)])

    def test_drawn_nets_against_all_ways(self):
        draw = random.Random(81)
        for unused in range(150):
            net = drawn_net(draw)
            wish = drawn_wish(draw, net[0])
            times = [written(draw.choice((0, drawn_amount(draw), drawn_amount(draw)))) for road in net[1]]
            self.check_heights(net, wish, times, plain_heights(net, wish, times))

    def test_drawn_great_times_against_all_ways(self):
        draw = random.Random(82)
        for many in (4, 5, 6) * 10:
            net = drawn_net(draw, many, 12)
            wish = drawn_wish(draw, many)
            times = [(draw.randrange(10 ** 17, 10 ** 18), 1) for road in net[1]]
            self.check_heights(net, wish, times, plain_heights(net, wish, times))


class BelongingTest(unittest.TestCase):
    """[2]: what is handed over stays as it was, and what is given belongs to the caller."""

    def test_what_is_handed_over_stays(self):
        net = made_net(3, [road(0, 1), road(1, 2), road(0, 2)])
        wish = (0, 2, (1, 1), False)
        times = whole(1, 1, 3)
        kept = copy.deepcopy((net, wish, times))
        height_list(net, wish, times)
        self.assertEqual((net, wish, times), kept)

    def test_lists_told_are_not_shared(self):
        net = made_net(2, [road(0, 1)])
        wish = (0, 1, (1, 1), False)
        times = whole(4)
        first = height_list(net, wish, times)
        second = height_list(net, wish, times)
        self.assertEqual(first, second)
        first[1] = None
        times[0] = (7, 1)
        self.assertEqual(second, [NOUGHT, (4, 1)])
        self.assertEqual(height_list(net, wish, whole(4)), second)
        self.assertEqual(height_list(net, wish, times), [NOUGHT, (7, 1)])


if __name__ == "__main__":
    unittest.main()
