import copy
import random
import unittest
from itertools import product

from crowdroads.errors import NoWay, NoWish, TooMany
from crowdroads.nets import made_net
from crowdroads.wishes import made_wishes, ways_of
from drawn import drawn_nets, drawn_wish, paths, plain_ways
from samples import Odd, changed, error_of, no_fractions, no_truths, no_wholes, refusal_of

GREAT = 10 ** 60 - 1
WISH = (0, 1, (1, 2), False)


def road(start, end, lane=False):
    return (start, end, (1, 1), (1, 1), lane)


def fan(*counts):
    """A net in which so many roads lead from place 0 to each of the next places."""
    return made_net(6, [road(0, k + 1) for k, count in enumerate(counts) for unused in range(count)])


# Two ways from 0 to 3, a lane that makes a third, a road back, and place 4, to which a lane alone leads.
NET = made_net(5, [
    road(0, 1), road(0, 2), road(1, 3), road(2, 3), road(1, 2, True), road(3, 0), road(3, 4, True),
])


class MadeWishesTest(unittest.TestCase):
    """[6]: wishes, and [2]: the list told is a new one."""

    def check_made(self, net, wishes):
        made = made_wishes(net, wishes)
        self.assertEqual(made, wishes)
        self.assertIs(type(made), list)
        self.assertIsNot(made, wishes)
        for wish in made:
            self.assertEqual([type(thing) for thing in wish], [int, int, tuple, bool])
            self.assertIs(type(wish), tuple)

    def test_one_to_three_wishes(self):
        self.check_made(NET, [(0, 3, (1, 1), False)])
        self.check_made(NET, [(0, 3, (1, 1), True)])
        self.check_made(NET, [(0, 3, (1, 1), False), (1, 0, (7, 3), True)])
        self.check_made(NET, [(2, 0, (1, 9), False), (0, 4, (5, 1), True), (3, 0, (1, 1), False)])

    def test_wishes_stay_in_their_order(self):
        wishes = [(3, 0, (2, 1), False), (0, 3, (1, 1), False), (0, 1, (3, 1), False)]
        self.check_made(NET, wishes)
        self.check_made(NET, wishes[::-1])

    def test_several_alike(self):
        self.check_made(NET, [(0, 3, (1, 1), False)] * 2)
        self.check_made(NET, [(0, 3, (1, 1), True)] * 3)
        self.check_made(NET, [(3, 0, (1, 1), False), (0, 3, (1, 1), True), (3, 0, (1, 1), False)])

    def test_amounts_small_and_great(self):
        for amount in ((1, 1), (1, 2), (1, GREAT), (GREAT, 1), (GREAT, GREAT - 1), (GREAT - 1, GREAT)):
            self.check_made(NET, [(0, 3, amount, False)])

    def test_places_at_the_bounds(self):
        for many in range(2, 7):
            net = made_net(many, [road(0, many - 1), road(many - 1, 0)])
            self.check_made(net, [(0, many - 1, (1, 1), False), (many - 1, 0, (1, 1), True)])

    def test_lanes_only_where_they_may_be_taken(self):
        net = made_net(2, [road(0, 1, True)])
        self.check_made(net, [(0, 1, (1, 1), True)])
        self.assertIs(refusal_of(lambda: made_wishes(net, [(0, 1, (1, 1), False)])), NoWay)


class NoWishTest(unittest.TestCase):
    """[6] and the refusals that the interface names."""

    def check_refused(self, net, wishes):
        with self.subTest(wishes=repr(wishes)):
            self.assertIs(refusal_of(lambda: made_wishes(net, wishes)), NoWish)

    def check_wish_refused(self, wish, net=NET):
        good = (0, 1, (1, 2), False)
        self.check_refused(net, [wish])
        self.check_refused(net, [wish, good])
        self.check_refused(net, [good, wish])
        self.check_refused(net, [wish, good, good])
        self.check_refused(net, [good, wish, good])
        self.check_refused(net, [good, good, wish])

    def test_none_or_more_than_three(self):
        self.check_refused(NET, [])
        for count in (4, 5, 12, 1000):
            self.check_refused(NET, [WISH] * count)
        self.check_refused(NET, [()] * 4)

    def test_a_wish_has_not_four_things(self):
        for wish in ((), (0,), WISH[:2], WISH[:3], WISH[1:], WISH + (True,), WISH + (None,), WISH + WISH):
            self.check_wish_refused(wish)

    def test_a_place_out_of_bounds(self):
        for many in range(2, 7):
            net = made_net(many, [road(0, 1), road(1, 0)])
            for place in (-1, -2, -many, many, many + 1, GREAT, -GREAT):
                self.check_wish_refused((place, 1, (1, 1), False), net)
                self.check_wish_refused((0, place, (1, 1), True), net)
                self.check_wish_refused((place, place, (1, 1), False), net)

    def test_a_place_is_no_whole_number(self):
        for thing in no_wholes():
            self.check_wish_refused((thing, 3, (1, 1), False))
            self.check_wish_refused((3, thing, (1, 1), False))
            self.check_wish_refused((thing, thing, (1, 1), False))

    def test_start_and_end_are_one(self):
        for place in range(5):
            self.check_wish_refused((place, place, (1, 1), False))
            self.check_wish_refused((place, place, (1, 1), True))

    def test_an_amount_that_is_nought_or_below(self):
        for amount in ((0, 1), (-1, 1), (-1, 2), (-GREAT, 1), (-1, GREAT)):
            self.check_wish_refused(changed(WISH, 2, amount))

    def test_an_amount_that_is_no_fraction(self):
        for thing in no_fractions():
            self.check_wish_refused(changed(WISH, 2, thing))

    def test_lane_is_no_truth(self):
        for thing in no_truths():
            self.check_wish_refused(changed(WISH, 3, thing))

    def test_several_faults_at_once(self):
        self.check_wish_refused((Odd(), Odd(), Odd(), Odd()))
        self.check_wish_refused((None,) * 4)
        self.check_wish_refused((True, False, True, 1))
        self.check_refused(NET, [(), (0,), (None,)])


class NoWayTest(unittest.TestCase):
    """[7]: a wish without ways, its number and the places that are reached."""

    def check_no_way(self, net, wishes, number, reached):
        error = error_of(lambda: made_wishes(net, wishes))
        self.assertIs(type(error), NoWay)
        self.assertEqual((error.wish, error.reached), (number, reached))
        self.assertIs(type(error.wish), int)
        self.assertIs(type(error.reached), list)
        self.assertEqual({type(place) for place in error.reached}, {int})

    def test_none_but_the_start_is_reached(self):
        for many in range(2, 7):
            self.check_no_way(made_net(many, []), [(many - 1, 0, (1, 1), True)], 0, [many - 1])
            self.check_no_way(made_net(many, [road(0, 1)]), [(1, 0, (1, 1), False)], 0, [1])

    def test_some_places_are_reached_over_others(self):
        net = made_net(6, [road(4, 2), road(2, 5), road(5, 4), road(0, 1), road(3, 4), road(1, 3)])
        self.check_no_way(net, [(5, 0, (1, 1), False)], 0, [2, 4, 5])
        self.check_no_way(net, [(2, 3, (1, 1), True)], 0, [2, 4, 5])
        self.check_no_way(net, [(3, 1, (1, 1), False)], 0, [2, 3, 4, 5])
        self.check_no_way(net, [(1, 0, (1, 1), False)], 0, [1, 2, 3, 4, 5])

    def test_places_far_off_are_reached_whatever_the_order_of_the_roads(self):
        chain = [road(k, k + 1) for k in range(4)]
        for roads in (chain, chain[::-1]):
            self.check_no_way(made_net(6, roads), [(0, 5, (1, 1), False)], 0, [0, 1, 2, 3, 4])

    def test_places_over_lanes_count_where_lanes_may_be_taken(self):
        net = made_net(5, [road(0, 1, True), road(1, 2), road(0, 3), road(3, 1, True)])
        self.check_no_way(net, [(0, 4, (1, 1), False)], 0, [0, 3])
        self.check_no_way(net, [(0, 4, (1, 1), True)], 0, [0, 1, 2, 3])
        self.check_no_way(net, [(0, 2, (1, 1), False)], 0, [0, 3])

    def test_the_first_wish_without_a_way(self):
        fine = (0, 3, (1, 1), False)
        lost = (0, 4, (1, 1), False)
        other = (4, 0, (1, 1), True)
        self.check_no_way(NET, [fine, lost], 1, [0, 1, 2, 3])
        self.check_no_way(NET, [fine, fine, other], 2, [4])
        self.check_no_way(NET, [other, fine, lost], 0, [4])
        self.check_no_way(NET, [fine, lost, other], 1, [0, 1, 2, 3])
        self.check_no_way(NET, [fine, other, lost], 1, [4])

    def test_drawn_nets(self):
        lost = 0
        for net, wish in drawn_nets(71, 150):
            error = error_of(lambda: made_wishes(net, [wish]))
            if paths(net, wish):
                self.assertIn(type(error), (type(None), TooMany))
                continue
            lost += 1
            places = [place for place in range(net[0]) if paths(net, (wish[0], place) + wish[2:])]
            self.check_no_way(net, [wish], 0, sorted(places + [wish[0]]))
        self.assertGreater(lost, 30)

    def test_what_is_reached_belongs_to_the_caller(self):
        wishes = [(4, 0, (1, 1), True)]
        first = error_of(lambda: made_wishes(NET, wishes))
        first.reached.clear()
        self.check_no_way(NET, wishes, 0, [4])


class TooManyTest(unittest.TestCase):
    """[7]: ten ways of all wishes together are carried, eleven are refused."""

    def check_carried(self, net, wishes):
        self.assertEqual(made_wishes(net, wishes), wishes)

    def check_refused(self, net, wishes):
        self.assertIs(refusal_of(lambda: made_wishes(net, wishes)), TooMany)

    def test_of_one_wish(self):
        self.check_carried(fan(10), [(0, 1, (1, 1), False)])
        self.check_refused(fan(11), [(0, 1, (1, 1), False)])
        self.check_refused(fan(12), [(0, 1, (1, 1), False)])

    def test_of_one_wish_over_several_places(self):
        ten = made_net(3, [road(0, 1)] * 5 + [road(1, 2)] * 2)
        self.check_carried(ten, [(0, 2, (1, 1), False)])
        self.check_refused(made_net(3, ten[1] + [road(0, 2)]), [(0, 2, (1, 1), False)])
        most = made_net(6, [road(0, 1)] * 3 + [road(1, 2)] * 3 + [road(k, k + 1) for k in (2, 3, 4)] * 2)
        self.check_refused(most, [(0, 5, (1, 1), False)])

    def test_of_all_together(self):
        one, two, three = [(0, place, (1, 1), False) for place in (1, 2, 3)]
        self.check_carried(fan(5, 5), [one, two])
        self.check_refused(fan(5, 6), [one, two])
        self.check_refused(fan(6, 5), [one, two])
        self.check_carried(fan(3, 3, 4), [one, two, three])
        self.check_carried(fan(8, 1, 1), [one, two, three])
        self.check_refused(fan(4, 4, 3), [one, two, three])
        self.check_refused(fan(1, 1, 9), [one, two, three])

    def test_alike_wishes_count_each(self):
        self.check_carried(fan(5), [(0, 1, (1, 1), False)] * 2)
        self.check_refused(fan(6), [(0, 1, (1, 1), False)] * 2)
        self.check_carried(fan(3), [(0, 1, (1, 1), False)] * 3)
        self.check_refused(fan(4), [(0, 1, (1, 1), False)] * 3)

    def test_lanes_count_where_they_may_be_taken(self):
        net = made_net(2, [road(0, 1)] * 10 + [road(0, 1, True)])
        self.check_carried(net, [(0, 1, (1, 1), False)])
        self.check_refused(net, [(0, 1, (1, 1), True)])


class OrderOfRefusalsTest(unittest.TestCase):
    """[2]: NoWish, then NoWay of the first wish that has no way, then TooMany."""

    def test_no_wish_goes_ahead_of_no_way(self):
        for bad in ((), (0, 0, (1, 1), False), (0, 1, (0, 1), False), (0, 1, (1, 1), 1), (0, 6, (1, 1), False)):
            for wishes in ([(1, 0, (1, 1), False), bad], [bad, (1, 0, (1, 1), False)]):
                self.assertIs(refusal_of(lambda: made_wishes(fan(1), wishes)), NoWish)
        self.assertIs(refusal_of(lambda: made_wishes(fan(1), [(1, 0, (1, 1), False)] * 4)), NoWish)

    def test_no_wish_goes_ahead_of_too_many(self):
        for wishes in ([WISH, (0, 1)], [(0, 1), WISH], [WISH] * 4):
            self.assertIs(refusal_of(lambda: made_wishes(fan(11), wishes)), NoWish)

    def test_no_way_goes_ahead_of_too_many(self):
        lost = (1, 0, (1, 1), False)
        for wishes in ([WISH, lost], [lost, WISH], [WISH, WISH, lost]):
            error = error_of(lambda: made_wishes(fan(11), wishes))
            self.assertIs(type(error), NoWay)
            self.assertEqual((error.wish, error.reached), (wishes.index(lost), [1]))

    def test_no_wish_goes_ahead_of_both(self):
        wishes = [WISH, (1, 0, (1, 1), False), (1, 0, (2, 4), False)]
        self.assertIs(refusal_of(lambda: made_wishes(fan(11), wishes)), NoWish)


class WaysOfTest(unittest.TestCase):
    """[7]: the ways of a wish, sorted."""

    def check_ways(self, net, wish, ways):
        told = ways_of(net, wish)
        self.assertEqual(told, ways)
        self.assertIs(type(told), list)
        for way in told:
            self.assertEqual([type(way)] + [type(number) for number in way], [list] + [int] * len(way))

    def test_one_road(self):
        self.check_ways(made_net(2, [road(0, 1)]), (0, 1, (1, 1), False), [[0]])
        self.check_ways(made_net(2, [road(1, 0), road(0, 1)]), (0, 1, (1, 1), False), [[1]])

    def test_alike_roads(self):
        self.check_ways(made_net(2, [road(0, 1)] * 3), (0, 1, (1, 1), False), [[0], [1], [2]])
        net = made_net(3, [road(1, 2), road(0, 1), road(1, 2), road(0, 1)])
        self.check_ways(net, (0, 2, (1, 1), False), [[1, 0], [1, 2], [3, 0], [3, 2]])

    def test_sorted_as_lists_of_numbers(self):
        roads = [road(1, 2)] + [road(0, 2)] + [road(0, 1)] * 9 + [road(0, 2)]
        ways = [[1]] + [[k, 0] for k in range(2, 11)] + [[11]]
        self.check_ways(made_net(3, roads), (0, 2, (1, 1), False), ways)

    def test_rings_and_roads_back_to_the_start_are_no_part_of_ways(self):
        net = made_net(4, [road(0, 1), road(1, 0), road(1, 2), road(2, 1), road(2, 0), road(2, 3), road(3, 2)])
        self.check_ways(net, (0, 3, (1, 1), False), [[0, 2, 5]])
        self.check_ways(net, (1, 3, (1, 1), False), [[2, 5]])
        self.check_ways(net, (3, 0, (1, 1), False), [[6, 3, 1], [6, 4]])

    def test_ways_stop_at_the_end(self):
        net = made_net(4, [road(0, 1), road(1, 2), road(2, 3), road(3, 1), road(0, 3)])
        self.check_ways(net, (0, 1, (1, 1), False), [[0], [4, 3]])

    def test_lanes(self):
        self.check_ways(NET, (0, 3, (1, 1), False), [[0, 2], [1, 3]])
        self.check_ways(NET, (0, 3, (1, 1), True), [[0, 2], [0, 4, 3], [1, 3]])
        self.check_ways(NET, (0, 4, (1, 1), True), [[0, 2, 6], [0, 4, 3, 6], [1, 3, 6]])

    def test_six_places(self):
        chain = [road(k, k + 1) for k in range(5)]
        self.check_ways(made_net(6, chain), (0, 5, (1, 1), False), [[0, 1, 2, 3, 4]])
        self.check_ways(made_net(6, chain[::-1] + [road(0, 5)]), (0, 5, (1, 1), False), [[4, 3, 2, 1, 0], [5]])

    def test_the_amount_makes_no_difference(self):
        for amount in ((1, GREAT), (1, 1), (GREAT, 1)):
            self.check_ways(NET, (0, 3, amount, False), [[0, 2], [1, 3]])

    def test_drawn_nets_against_a_plain_search(self):
        for net, wish in drawn_nets(72, 300):
            self.check_ways(net, wish, plain_ways(net, wish))

    def test_full_nets_against_a_plain_search(self):
        draw = random.Random(73)
        for many in (2, 3, 4, 5, 6, 6) * 4:
            pairs = [pair for pair in product(range(many), repeat=2) if pair[0] != pair[1]]
            roads = [road(*draw.choice(pairs), lane=draw.random() < 0.2) for unused in range(12)]
            for unused in range(2):
                wish = drawn_wish(draw, many)
                self.check_ways(made_net(many, roads), wish, plain_ways((many, roads), wish))

    def test_drawn_nets_against_a_quicker_search(self):
        for net, wish in drawn_nets(74, 300):
            self.check_ways(net, wish, paths(net, wish))


class BelongingTest(unittest.TestCase):
    """[2]: what is handed over stays as it was, and what is given belongs to the caller."""

    def test_what_is_handed_over_stays(self):
        net = copy.deepcopy(NET)
        wishes = [(0, 3, (1, 1), True), (3, 0, (1, 2), False)]
        kept = copy.deepcopy(wishes)
        made_wishes(net, wishes)
        ways_of(net, wishes[0])
        self.assertEqual((net, wishes), (NET, kept))

    def test_what_is_refused_stays(self):
        inner = [1, 2]
        lost = (4, 0, (1, 1), True)
        for wishes in ([changed(WISH, 2, inner)], [WISH, WISH[:3] + (inner,)], [WISH] * 4, [WISH, lost], []):
            net = copy.deepcopy(NET)
            kept = copy.deepcopy(wishes)
            self.assertIsNotNone(refusal_of(lambda: made_wishes(net, wishes)))
            self.assertEqual((net, wishes), (NET, kept))
        net = fan(11)
        wishes = [WISH]
        self.assertIs(refusal_of(lambda: made_wishes(net, wishes)), TooMany)
        self.assertEqual((net, wishes), (fan(11), [WISH]))

    def test_changing_the_list_handed_over_changes_no_wishes(self):
        wishes = [WISH, (0, 3, (1, 1), True)]
        made = made_wishes(NET, wishes)
        wishes.append(WISH)
        wishes[0] = (3, 0, (1, 1), False)
        self.assertEqual(made, [WISH, (0, 3, (1, 1), True)])

    def test_changing_the_list_told_changes_nothing_else(self):
        wishes = [WISH]
        first = made_wishes(NET, wishes)
        second = made_wishes(NET, wishes)
        first.clear()
        self.assertEqual((wishes, second, made_wishes(NET, wishes)), ([WISH], [WISH], [WISH]))

    def test_ways_told_are_not_shared(self):
        wish = (0, 3, (1, 1), True)
        first = ways_of(NET, wish)
        second = ways_of(NET, wish)
        self.assertEqual(first, second)
        first[0].append(9)
        first.append([1])
        self.assertEqual(second, [[0, 2], [0, 4, 3], [1, 3]])
        self.assertEqual(ways_of(NET, wish), second)

    def test_changing_the_net_changes_no_ways_told_before(self):
        net = made_net(2, [road(0, 1), road(0, 1)])
        told = ways_of(net, WISH)
        net[1].pop()
        self.assertEqual(told, [[0], [1]])
        self.assertEqual(ways_of(net, WISH), [[0]])


if __name__ == "__main__":
    unittest.main()
