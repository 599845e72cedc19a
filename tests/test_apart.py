import copy
import unittest
from fractions import Fraction

from crowdroads.apart import told_apart, without_rings
from crowdroads.errors import NoShare
from crowdroads.fractions import is_fraction
from crowdroads.nets import made_net
from drawn import along, drawn_flows, goes_round, is_ring, is_way, plain_fits, values, written
from samples import Odd, changed, no_fractions, refusal_of, whole

NOUGHT = (0, 1)
GREAT = 10 ** 60 - 1


def road(start, end, lane=False):
    return (start, end, (1, 1), (1, 1), lane)


# Ways from 0 to 3: 0 1, 2 3, 0 4 3, 2 5 1, and over the lane 6. Rings: 4 5, those with 7 from 3 back to 0,
# 8 9 at the end of the wish, 10 11 at its start over a lane.
NET = made_net(6, [
    road(0, 1), road(1, 3), road(0, 2), road(2, 3), road(1, 2), road(2, 1), road(0, 3, True),
    road(3, 0), road(3, 4), road(4, 3), road(0, 5, True), road(5, 0),
])
WISH = (0, 3, (2, 1), False)
BUS = (0, 3, (2, 1), True)
ROWS = [([0, 1], 1), ([2, 3], 1)]
FLOW = along(NET, ROWS)


class Checks(unittest.TestCase):

    def check_parts(self, net, parts):
        self.assertIs(type(parts), list)
        for part in parts:
            self.assertIs(type(part), tuple)
            row, amount = part
            self.assertEqual({type(number) for number in row}, {int})
            self.assertIs(type(row), list)
            self.assertTrue(is_fraction(amount) and amount[0] > 0)
        rows = [row for row, amount in parts]
        self.assertEqual(rows, sorted(rows))
        self.assertEqual(len({tuple(row) for row in rows}), len(rows))

    def check_told_apart(self, net, wish, flow):
        told = told_apart(net, wish, flow)
        self.assertIs(type(told), tuple)
        self.assertEqual(len(told), 2)
        ways, rings = told
        self.check_parts(net, ways)
        self.check_parts(net, rings)
        for way, amount in ways:
            self.assertTrue(is_way(net, wish, way), way)
        for ring, amount in rings:
            self.assertTrue(is_ring(net, ring), ring)
            self.assertEqual(ring[0], min(ring))
        self.assertLessEqual(len(ways) + len(rings), len(net[1]))
        self.assertEqual(along(net, [(row, Fraction(*amount)) for row, amount in ways + rings]), flow)
        self.assertEqual(sum(Fraction(*amount) for way, amount in ways), Fraction(*wish[2]))

    def check_without_rings(self, net, wish, flow):
        told = without_rings(net, wish, flow)
        self.assertIs(type(told), list)
        self.assertEqual(len(told), len(net[1]))
        self.assertTrue(all(is_fraction(amount) for amount in told))
        self.assertTrue(plain_fits(net, wish, told))
        self.assertTrue(all(less <= more for less, more in zip(values(told), values(flow))))
        self.assertFalse(goes_round(net, told))

    def check_both(self, net, wish, flow):
        with self.subTest(net=net, wish=wish, flow=flow):
            self.check_told_apart(net, wish, flow)
            self.check_without_rings(net, wish, flow)


class ApartTest(Checks):
    """[12]: a flow told apart, and a flow without its rings."""

    def test_one_way(self):
        net = made_net(3, [road(1, 2), road(0, 1)])
        wish = (0, 2, (1, 2), False)
        self.assertEqual(told_apart(net, wish, [(1, 2)] * 2), ([([1, 0], (1, 2))], []))
        self.assertEqual(without_rings(net, wish, [(1, 2)] * 2), [(1, 2)] * 2)

    def test_several_ways(self):
        self.assertEqual(told_apart(NET, WISH, FLOW), ([([0, 1], (1, 1)), ([2, 3], (1, 1))], []))
        self.assertEqual(without_rings(NET, WISH, FLOW), FLOW)

    def test_ways_in_their_order(self):
        net = made_net(3, [road(1, 2), road(0, 2), road(0, 1), road(0, 2), road(1, 2), road(0, 2)])
        wish = (0, 2, (15, 1), False)
        flow = along(net, [([5], 5), ([3], 4), ([2, 0], 1), ([1], 3), ([2, 4], 2)])
        ways = [([1], (3, 1)), ([2, 0], (1, 1)), ([2, 4], (2, 1)), ([3], (4, 1)), ([5], (5, 1))]
        self.assertEqual(told_apart(net, wish, flow), (ways, []))
        self.check_both(net, wish, flow)

    def test_one_ring(self):
        net = made_net(5, [road(0, 1), road(3, 4), road(4, 2), road(2, 3)])
        wish = (0, 1, (1, 1), False)
        flow = whole(1, 5, 5, 5)
        self.assertEqual(told_apart(net, wish, flow), ([([0], (1, 1))], [([1, 2, 3], (5, 1))]))
        self.assertEqual(without_rings(net, wish, flow), whole(1, 0, 0, 0))

    def test_a_ring_is_told_from_its_least_number_on(self):
        for roads in ([(2, 3), (4, 2), (3, 4)], [(4, 2), (2, 3), (3, 4)], [(3, 4), (2, 3), (4, 2)]):
            net = made_net(5, [road(0, 1)] + [road(*pair) for pair in roads])
            flow = whole(1, 2, 2, 2)
            told = told_apart(net, (0, 1, (1, 1), False), flow)
            self.assertEqual(told[1][0][0][0], 1)
            self.check_both(net, (0, 1, (1, 1), False), flow)

    def test_rings_of_two_roads_with_roads_alike(self):
        net = made_net(2, [road(0, 1), road(1, 0), road(0, 1), road(1, 0), road(0, 1)])
        wish = (0, 1, (1, 3), False)
        flow = along(net, [([0], Fraction(1, 3)), ([0, 1], 2), ([2, 3], 3), ([1, 4], 4), ([3, 4], 5)])
        self.check_both(net, wish, flow)

    def test_rings_of_each_kind(self):
        rings = ([4, 5], [0, 1, 7], [2, 3, 7], [0, 4, 3, 7], [2, 5, 1, 7], [8, 9])
        for ring in rings:
            self.check_both(NET, WISH, along(NET, ROWS + [(ring, Fraction(3, 2))]))
            self.check_both(NET, BUS, along(NET, ROWS + [(ring, Fraction(3, 2))]))
            for other in rings:
                flow = along(NET, ROWS + [(ring, Fraction(3, 2)), (other, 5), ([4, 5], Fraction(1, 3))])
                self.check_both(NET, WISH, flow)

    def test_rings_over_lanes(self):
        for rows in ([([6, 7], 2)], [([10, 11], 1)], [([6, 7], 2), ([10, 11], 1), ([0, 1, 7], 4)]):
            self.check_both(NET, BUS, along(NET, ROWS + rows))
            self.check_both(NET, BUS, along(NET, [([6], 2)] + rows))
            self.assertIs(refusal_of(lambda: told_apart(NET, WISH, along(NET, ROWS + rows))), NoShare)

    def test_rings_at_the_start_and_at_the_end(self):
        flow = along(NET, ROWS + [([8, 9], Fraction(5, 2)), ([10, 11], Fraction(1, 2))])
        rings = [([8, 9], (5, 2)), ([10, 11], (1, 2))]
        self.assertEqual(told_apart(NET, BUS, flow)[1], rings)
        self.assertEqual(without_rings(NET, BUS, flow), FLOW)
        self.check_both(NET, BUS, flow)

    def test_a_ring_over_start_and_end_leaves_the_amount(self):
        flow = along(NET, [([0, 1], 2), ([0, 1, 7], 3)])
        self.assertEqual(told_apart(NET, WISH, flow), ([([0, 1], (2, 1))], [([0, 1, 7], (3, 1))]))
        self.assertEqual(without_rings(NET, WISH, flow), along(NET, [([0, 1], 2)]))

    def test_ways_that_make_rings_together(self):
        # 0 4 3 and 2 5 1 cross on 4 and 5.
        flow = along(NET, [([0, 4, 3], 1), ([2, 5, 1], 1)])
        self.assertEqual(told_apart(NET, WISH, flow)[1], [([4, 5], (1, 1))])
        self.assertEqual(without_rings(NET, WISH, flow), FLOW)
        self.check_both(NET, WISH, flow)

    def test_many_ways_on_all_roads(self):
        rows = [([0, 1], 1), ([2, 3], Fraction(1, 2)), ([0, 4, 3], Fraction(1, 3)), ([6], Fraction(1, 6))]
        self.check_both(NET, BUS, along(NET, rows))

    def test_figures_of_eight(self):
        net = made_net(6, [
            road(0, 1), road(2, 3), road(3, 2), road(3, 4), road(4, 3), road(4, 5), road(5, 4), road(4, 2), road(2, 4),
        ])
        flow = along(net, [([0], 1), ([1, 2], 1), ([3, 4], 2), ([5, 6], 3), ([1, 3, 7], 4), ([2, 8, 4], 5)])
        self.check_both(net, (0, 1, (1, 1), False), flow)

    def test_small_and_great_amounts(self):
        for amount in (Fraction(1, GREAT), Fraction(GREAT), Fraction(GREAT, GREAT - 1)):
            wish = (0, 3, written(amount), False)
            self.check_both(NET, wish, along(NET, [([0, 1], amount)]))
            self.check_both(NET, wish, along(NET, [([0, 1], amount), ([4, 5], 1 / amount), ([8, 9], amount)]))

    def test_drawn_flows(self):
        round_about = 0
        for net, wish, flow in drawn_flows(61, 400):
            self.check_both(net, wish, flow)
            round_about += goes_round(net, flow)
        self.assertGreater(round_about, 100)

    def test_what_is_told_goes_round_no_more(self):
        for net, wish, flow in drawn_flows(62, 60):
            less = without_rings(net, wish, flow)
            self.assertEqual(told_apart(net, wish, less)[1], [])
            self.assertEqual(without_rings(net, wish, less), less)


class NoShareTest(unittest.TestCase):
    """[12]: what is no flow of the wish is refused with NoShare and no other class."""

    def check_refused(self, wish, flow, net=NET):
        with self.subTest(wish=wish, flow=repr(flow)):
            self.assertIs(refusal_of(lambda: told_apart(net, wish, flow)), NoShare)
            self.assertIs(refusal_of(lambda: without_rings(net, wish, flow)), NoShare)

    def test_too_short_or_too_long(self):
        for flow in ([], FLOW[:-1], FLOW[1:], FLOW[:4], FLOW + [NOUGHT], FLOW * 2, FLOW * 100, [None], [Odd()] * 12):
            self.check_refused(WISH, flow)

    def test_something_is_no_fraction_from_nought_on(self):
        for thing in no_fractions() + [(-1, 1), (-1, 2), (-GREAT, 1)]:
            for number in (0, 4, 6, 11):
                self.check_refused(WISH, changed(FLOW, number, thing))
                self.check_refused(BUS, changed(FLOW, number, thing))

    def test_below_nought_on_a_ring(self):
        self.check_refused(WISH, along(NET, ROWS + [([4, 5], -1)]))
        self.check_refused(WISH, along(NET, [([0, 1], 3), ([2, 3], -1)]))

    def test_on_a_lane_that_may_not_be_taken(self):
        self.check_refused(WISH, along(NET, [([6], 2)]))
        self.check_refused(WISH, along(NET, ROWS + [([10, 11], 1)]))

    def test_in_and_out(self):
        for number in range(12):
            flow = along(NET, ROWS + [([number], Fraction(1, 7))])
            self.check_refused(BUS, flow)
        self.check_refused(WISH, [NOUGHT] * 12)
        self.check_refused(WISH, along(NET, [([4, 5], 1)]))
        self.check_refused(WISH, along(NET, [([0, 1], 1)]))
        self.check_refused(WISH, along(NET, [([0, 1], 3)]))

    def test_a_flow_of_another_wish(self):
        for wish in ((3, 0, (2, 1), False), (0, 1, (2, 1), False), (2, 3, (2, 1), False), (0, 3, (1, 1), False)):
            self.check_refused(wish, FLOW)


class BelongingTest(unittest.TestCase):
    """[2]: what is handed over stays as it was, and what is given belongs to the caller."""

    def setUp(self):
        self.flow = along(NET, ROWS + [([4, 5], 1), ([0, 1, 7], 2)])

    def test_what_is_handed_over_stays(self):
        handed = copy.deepcopy((NET, WISH, self.flow))
        told_apart(*handed)
        without_rings(*handed)
        self.assertEqual(handed, (NET, WISH, self.flow))

    def test_what_is_refused_stays(self):
        inner = [1, 2]
        for flow in ([], self.flow[:3], changed(self.flow, 3, inner), [NOUGHT] * 12, changed(self.flow, 6, (1, 1))):
            handed = copy.deepcopy((NET, WISH, flow))
            self.assertIs(refusal_of(lambda: told_apart(*handed)), NoShare)
            self.assertIs(refusal_of(lambda: without_rings(*handed)), NoShare)
            self.assertEqual(handed, (NET, WISH, flow))

    def test_the_same_question_twice(self):
        for net, wish, flow in drawn_flows(63, 30):
            self.assertEqual(told_apart(net, wish, flow), told_apart(*copy.deepcopy((net, wish, flow))))
            self.assertEqual(without_rings(net, wish, flow), without_rings(*copy.deepcopy((net, wish, flow))))

    def test_lists_told_are_not_shared(self):
        first = told_apart(NET, WISH, self.flow)
        second = told_apart(NET, WISH, self.flow)
        kept = copy.deepcopy(second)
        first[0][0][0].append(9)
        first[1][0][0].clear()
        first[0].clear()
        first[1].pop()
        self.assertEqual(second, kept)
        self.assertEqual(told_apart(NET, WISH, self.flow), kept)

    def test_a_flow_without_rings_is_a_list_of_its_own(self):
        flow = list(FLOW)
        first = without_rings(NET, WISH, flow)
        second = without_rings(NET, WISH, flow)
        self.assertIsNot(first, flow)
        first[0] = None
        self.assertEqual((flow, second), (FLOW, FLOW))
        flow[0] = (9, 1)
        self.assertEqual(second, FLOW)


if __name__ == "__main__":
    unittest.main()
