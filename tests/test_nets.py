import copy
import unittest

from crowdroads.errors import NoNet
from crowdroads.nets import made_net
from samples import Odd, changed, no_fractions, no_truths, no_wholes, refusal_of

GREAT = 10 ** 60 - 1
ROAD = (0, 1, (1, 2), (3, 1), False)
LANE = (1, 0, (0, 1), (0, 1), True)


class MadeNetTest(unittest.TestCase):
    """[5]: roads, lanes and nets."""

    def check_kinds(self, net):
        self.assertIs(type(net), tuple)
        self.assertEqual(len(net), 2)
        self.assertIs(type(net[0]), int)
        self.assertIs(type(net[1]), list)
        for road in net[1]:
            self.assertEqual([type(thing) for thing in road], [int, int, tuple, tuple, bool])
            self.assertIs(type(road), tuple)

    def check_made(self, many, roads):
        net = made_net(many, roads)
        self.assertEqual(net, (many, roads))
        self.check_kinds(net)

    def test_two_to_six_places(self):
        for many in range(2, 7):
            self.check_made(many, [ROAD, LANE])
            self.check_made(many, [(0, many - 1, (0, 1), (1, 1), False), (many - 1, 0, (1, 1), (0, 1), True)])

    def test_no_roads(self):
        for many in range(2, 7):
            self.check_made(many, [])

    def test_one_to_twelve_roads(self):
        for count in range(1, 13):
            self.check_made(6, [(k % 5, 5, (k, 1), (1, k + 1), k % 2 == 0) for k in range(count)])

    def test_several_alike(self):
        self.check_made(2, [ROAD, ROAD, ROAD])
        self.check_made(2, [LANE] * 12)

    def test_roads_stay_in_their_order(self):
        roads = [(0, 1, (k, 1), (0, 1), False) for k in (5, 1, 4, 1, 3)]
        self.check_made(2, roads)
        self.check_made(2, roads[::-1])

    def test_great_numbers(self):
        self.check_made(2, [(0, 1, (GREAT, GREAT - 1), (1, GREAT), True)])

    def test_a_lane_is_told_by_a_truth(self):
        self.assertIs(made_net(2, [changed(ROAD, 4, True)])[1][0][4], True)
        self.assertIs(made_net(2, [changed(ROAD, 4, False)])[1][0][4], False)


class NoNetTest(unittest.TestCase):
    """[5] and the refusals that the interface names."""

    def check_refused(self, many, roads):
        with self.subTest(many=repr(many), roads=repr(roads)):
            self.assertIs(refusal_of(lambda: made_net(many, roads)), NoNet)

    def check_road_refused(self, many, road):
        self.check_refused(many, [road])
        self.check_refused(many, [road, ROAD, LANE])
        self.check_refused(many, [ROAD, road, LANE])
        self.check_refused(many, [ROAD, LANE, road])
        self.check_refused(many, [ROAD] * 11 + [road])

    def test_many_out_of_bounds(self):
        for many in (1, 0, -1, -2, -6, 7, 8, 12, GREAT, -GREAT):
            self.check_refused(many, [])
            self.check_refused(many, [ROAD])

    def test_many_is_no_whole_number(self):
        for many in no_wholes() + [2.0, 3.0, "2", [2], (2,), (2, 1)]:
            self.check_refused(many, [])
            self.check_refused(many, [ROAD])

    def test_more_than_twelve_roads(self):
        for count in (13, 14, 40, 1000):
            self.check_refused(2, [ROAD] * count)
            self.check_refused(6, [LANE] * count)
        self.check_refused(2, [()] * 13)

    def test_a_road_has_not_five_things(self):
        for road in ((), (0,), (0, 1), ROAD[:3], ROAD[:4], ROAD[1:], ROAD + (True,), ROAD + (None,), ROAD + ROAD):
            self.check_road_refused(2, road)

    def test_a_place_out_of_bounds(self):
        for many in range(2, 7):
            for place in (-1, -2, -many, many, many + 1, GREAT, -GREAT):
                self.check_road_refused(many, (place, 1, (0, 1), (0, 1), False))
                self.check_road_refused(many, (0, place, (0, 1), (0, 1), False))
                self.check_road_refused(many, (place, place, (0, 1), (0, 1), False))

    def test_a_place_is_no_whole_number(self):
        for thing in no_wholes():
            self.check_road_refused(3, changed((0, 2, (0, 1), (0, 1), False), 0, thing))
            self.check_road_refused(3, changed((2, 0, (0, 1), (0, 1), False), 1, thing))
            self.check_road_refused(3, (thing, thing, (0, 1), (0, 1), False))

    def test_start_and_end_are_one(self):
        for place in range(6):
            self.check_road_refused(6, (place, place, (1, 1), (1, 1), False))

    def test_base_or_slope_is_below_nought(self):
        for thing in ((-1, 1), (-1, 2), (-GREAT, 1), (-1, GREAT)):
            self.check_road_refused(2, changed(ROAD, 2, thing))
            self.check_road_refused(2, changed(ROAD, 3, thing))

    def test_base_or_slope_is_no_fraction(self):
        for thing in no_fractions():
            self.check_road_refused(2, changed(ROAD, 2, thing))
            self.check_road_refused(2, changed(ROAD, 3, thing))

    def test_lane_is_no_truth(self):
        for thing in no_truths():
            self.check_road_refused(2, changed(ROAD, 4, thing))
            self.check_road_refused(2, changed(LANE, 4, thing))

    def test_several_faults_at_once(self):
        self.check_refused(7, [ROAD] * 13 + [()])
        self.check_refused(True, [(Odd(),) * 5])
        self.check_road_refused(2, (Odd(), None, "1", [1], 0))
        self.check_road_refused(2, (None,) * 5)


class BelongingTest(unittest.TestCase):
    """[2]: what is handed over stays as it was, and what is given belongs to the caller."""

    def test_what_is_handed_over_stays(self):
        roads = [ROAD, LANE, ROAD]
        kept = copy.deepcopy(roads)
        made_net(4, roads)
        self.assertEqual(roads, kept)

    def test_what_is_refused_stays(self):
        inner = [1, 2]
        for many, last in ((3, changed(ROAD, 2, inner)), (3, ROAD[:4] + (inner,)), (9, ROAD), (3, ())):
            roads = [ROAD, last]
            kept = copy.deepcopy(roads)
            self.assertIs(refusal_of(lambda: made_net(many, roads)), NoNet)
            self.assertEqual(roads, kept)
        roads = [ROAD] * 13
        self.assertIs(refusal_of(lambda: made_net(3, roads)), NoNet)
        self.assertEqual(roads, [ROAD] * 13)

    def test_changing_the_list_handed_over_changes_no_net(self):
        roads = [ROAD, LANE]
        net = made_net(3, roads)
        roads.append(ROAD)
        roads[0] = LANE
        self.assertEqual(net, (3, [ROAD, LANE]))
        self.assertEqual(made_net(3, [ROAD, LANE]), (3, [ROAD, LANE]))

    def test_changing_the_list_told_changes_nothing_else(self):
        roads = [ROAD, LANE]
        first = made_net(3, roads)
        second = made_net(3, roads)
        first[1].clear()
        self.assertEqual(roads, [ROAD, LANE])
        self.assertEqual(second, (3, [ROAD, LANE]))
        self.assertEqual(made_net(3, roads), (3, [ROAD, LANE]))

    def test_an_empty_net_is_not_shared_either(self):
        first = made_net(2, [])
        first[1].append(ROAD)
        self.assertEqual(made_net(2, []), (2, []))

    def test_like_questions_have_equal_answers(self):
        self.assertEqual(made_net(3, [ROAD, LANE]), made_net(3, [ROAD, LANE]))


if __name__ == "__main__":
    unittest.main()
