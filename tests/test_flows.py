import copy
import random
import unittest
from fractions import Fraction

from crowdroads.errors import NoShare
from crowdroads.flows import (
    dear_times, load_list, road_times, roads_over, share_fits, sum_of_times, told_number,
)
from crowdroads.nets import made_net
from drawn import drawn_amount, drawn_shares, plain_fits, plain_heights, values, written
from samples import Odd, changed, no_fractions, refusal_of, whole

NOUGHT = (0, 1)
GREAT = 10 ** 60 - 1


def road(start, end, base=(0, 1), slope=(0, 1), lane=False):
    return (start, end, base, slope, lane)


# Roads 0 and 1 lead from 0 over 1 to 3, 2 and 3 over 2, and 4 across; 5 leads back to 0; 6 is a lane from 0 to 3;
# 7 and 8 make a ring of places 1 and 2 with 4, and of 4 and 5, to which nothing leads, 9 and 10 make one.
NET = made_net(6, [
    road(0, 1, (0, 1), (1, 1)), road(1, 3, (1, 1)), road(0, 2, (1, 1)), road(2, 3, (0, 1), (1, 1)),
    road(1, 2), road(3, 0, (2, 1)), road(0, 3, (3, 1), (1, 2), True),
    road(2, 1, (1, 2)), road(2, 1, (1, 1)), road(4, 5, (1, 1), (1, 1)), road(5, 4),
])
WISH = (0, 3, (2, 1), False)
BUS = (0, 3, (2, 1), True)
STRAIGHT = whole(1, 1, 1, 1, 0, 0, 0, 0, 0, 0, 0)
ACROSS = whole(2, 0, 0, 2, 2, 0, 0, 0, 0, 0, 0)


def more(flow, numbers, amount):
    """A flow with so much more on some roads."""
    amounts = values(flow)
    return [written(amounts[k] + (amount if k in numbers else 0)) for k in range(len(flow))]


def bad_shares(wishes, share):
    """What is no share of the wishes, made of one that is."""
    flow = share[0]
    found = [[], share + [flow], share + share, share[1:], share + [[]], [[]] * len(share)]
    for place in range(len(share)):
        for thing in ([], flow[:-1], flow[1:], flow + [NOUGHT], flow + flow, flow * 100, [None], [Odd()] * len(flow)):
            found.append(changed(share, place, thing))
        for number in (0, 4, len(flow) - 1):
            for thing in no_fractions() + [(-1, 1), (-1, 2), (-GREAT, 1)]:
                found.append(changed(share, place, changed(share[place], number, thing)))
        # Too much or too little at two places each.
        for number in range(len(flow)):
            found.append(changed(share, place, more(share[place], [number], Fraction(1, 3))))
        found.append(changed(share, place, [written(2 * amount) for amount in values(share[place])]))
        found.append(changed(share, place, [NOUGHT] * len(flow)))
    return found


class ShareFitsTest(unittest.TestCase):
    """[9]: flows and shares."""

    def check_fits(self, wishes, share, right, net=NET):
        with self.subTest(wishes=wishes, share=repr(share)):
            self.assertIs(share_fits(net, wishes, share), right)

    def test_along_ways(self):
        for flow in (STRAIGHT, ACROSS, whole(2, 2, 0, 0, 0, 0, 0, 0, 0, 0, 0)):
            self.check_fits([WISH], [flow], True)
            self.check_fits([BUS], [flow], True)

    def test_parts_of_amounts(self):
        flow = [(1, 3), (1, 3), (5, 3), (5, 3)] + [NOUGHT] * 7
        self.check_fits([WISH], [flow], True)
        self.check_fits([WISH], [changed(flow, 1, (1, 2))], False)
        self.check_fits([(0, 3, (1, GREAT), False)], [[(1, GREAT)] * 2 + [NOUGHT] * 9], True)
        self.check_fits([(0, 3, (1, GREAT), False)], [[(1, GREAT - 1)] * 2 + [NOUGHT] * 9], False)

    def test_along_ways_and_rings(self):
        for ring in ([4, 7], [4, 8], [0, 1, 5], [2, 3, 5], [0, 4, 3, 5], [2, 7, 1, 5]):
            self.check_fits([WISH], [more(STRAIGHT, ring, Fraction(5, 7))], True)
            self.check_fits([WISH], [more(more(ACROSS, ring, 1), [4, 7], Fraction(1, 2))], True)

    def test_with_rings_alone_beside(self):
        self.check_fits([WISH], [more(STRAIGHT, [9, 10], Fraction(9, 2))], True)
        self.check_fits([WISH], [changed(STRAIGHT, 9, (1, 1))], False)

    def test_several_wishes(self):
        back = (3, 0, (1, 2), False)
        way = changed([NOUGHT] * 11, 5, (1, 2))
        self.check_fits([WISH, back], [STRAIGHT, way], True)
        self.check_fits([WISH, back], [way, STRAIGHT], False)
        self.check_fits([WISH, WISH], [STRAIGHT, ACROSS], True)
        self.check_fits([back, WISH, WISH], [way, STRAIGHT, STRAIGHT], True)
        self.check_fits([back, WISH, WISH], [way, STRAIGHT, way], False)

    def test_too_few_or_too_many_lists(self):
        self.check_fits([WISH], [], False)
        self.check_fits([WISH], [STRAIGHT, STRAIGHT], False)
        self.check_fits([WISH, WISH], [STRAIGHT], False)
        self.check_fits([WISH, WISH, WISH], [STRAIGHT] * 2, False)
        self.check_fits([WISH], [STRAIGHT] * 1000, False)
        self.check_fits([WISH, WISH], [[NOUGHT] * 11] + [STRAIGHT], False)

    def test_a_list_too_short_or_too_long(self):
        for flow in ([], STRAIGHT[:-1], STRAIGHT[1:], STRAIGHT + [NOUGHT], STRAIGHT * 2, STRAIGHT[:4]):
            self.check_fits([WISH], [flow], False)
            self.check_fits([WISH, BUS], [STRAIGHT, flow], False)
            self.check_fits([WISH, BUS], [flow, STRAIGHT], False)

    def test_a_thing_that_is_no_fraction(self):
        for thing in no_fractions():
            for number in (0, 4, 6, 10):
                self.check_fits([WISH], [changed(STRAIGHT, number, thing)], False)
                self.check_fits([BUS, WISH], [STRAIGHT, changed(STRAIGHT, number, thing)], False)

    def test_below_nought(self):
        # What goes in and out is as it should be; only that it is below nought is wrong.
        self.check_fits([WISH], [more(STRAIGHT, [4, 7], -1)], False)
        self.check_fits([WISH], [more(STRAIGHT, [9, 10], Fraction(-1, 3))], False)
        self.check_fits([WISH], [more(whole(3, 3, 0, 0, 0, 0, 0, 0, 0, 0, 0), [2, 3], -1)], False)

    def test_lanes(self):
        flow = whole(1, 1, 0, 0, 0, 0, 1, 0, 0, 0, 0)
        self.check_fits([BUS], [flow], True)
        self.check_fits([WISH], [flow], False)
        self.check_fits([BUS, WISH], [flow, STRAIGHT], True)
        self.check_fits([BUS, WISH], [STRAIGHT, flow], False)
        round_by_lane = more(STRAIGHT, [6, 5], 1)
        self.check_fits([BUS], [round_by_lane], True)
        self.check_fits([WISH], [round_by_lane], False)

    def test_in_and_out_at_the_start_at_the_end_and_elsewhere(self):
        net = made_net(5, [road(0, 1), road(1, 2), road(2, 3), road(3, 4)])
        wish = (1, 3, (1, 1), False)
        self.check_fits([wish], [whole(0, 1, 1, 0)], True, net)
        self.check_fits([wish], [whole(1, 1, 1, 0)], False, net)
        self.check_fits([wish], [whole(0, 1, 1, 1)], False, net)
        self.check_fits([wish], [whole(0, 2, 1, 0)], False, net)
        self.check_fits([wish], [whole(0, 1, 2, 0)], False, net)
        self.check_fits([wish], [whole(0, 2, 2, 0)], False, net)
        self.check_fits([wish], [[NOUGHT, (1, 2), (1, 2), NOUGHT]], False, net)
        self.check_fits([wish], [[NOUGHT] * 4], False, net)
        self.check_fits([wish], [whole(1, 2, 1, 0)], False, net)
        self.check_fits([wish], [whole(1, 2, 2, 1)], False, net)

    def test_the_wrong_way_round(self):
        net = made_net(2, [road(0, 1), road(1, 0)])
        self.check_fits([(0, 1, (1, 1), False)], [whole(0, 1)], False, net)
        self.check_fits([(1, 0, (1, 1), False)], [whole(0, 1)], True, net)
        self.check_fits([(0, 1, (1, 1), False)], [whole(3, 2)], True, net)

    def test_shares_made_wrong(self):
        for share in bad_shares([WISH, BUS], [STRAIGHT, ACROSS]):
            self.check_fits([WISH, BUS], share, False)

    def test_drawn_shares(self):
        draw = random.Random(91)
        for net, wishes, share in drawn_shares(92, 120):
            self.check_fits(wishes, share, True, net)
            for unused in range(8):
                place = draw.randrange(len(share))
                number = draw.randrange(len(net[1]))
                amount = draw.choice((1, -1)) * drawn_amount(draw)
                other = changed(share, place, more(share[place], [number], amount))
                right = all(plain_fits(net, wish, flow) for wish, flow in zip(wishes, other))
                self.check_fits(wishes, other, right, net)


class ReckonedTest(unittest.TestCase):
    """[10]: loads, times, dear times, the sum of times, the told number."""

    def check_all(self, net, share, loads, times, dear, whole_sum, told):
        self.assertEqual(load_list(net, share), loads)
        self.assertEqual(road_times(net, share), times)
        self.assertEqual(dear_times(net, share), dear)
        self.assertEqual(sum_of_times(net, share), whole_sum)
        self.assertEqual(told_number(net, share), told)

    def test_one_road(self):
        net = made_net(2, [road(0, 1, (1, 2), (3, 1))])
        self.check_all(net, [[(2, 1)]], [(2, 1)], [(13, 2)], [(25, 2)], (13, 1), (7, 1))

    def test_noughts(self):
        net = made_net(3, [road(0, 1), road(0, 1, (5, 1)), road(0, 1, (0, 1), (7, 1)), road(1, 2, (5, 1), (7, 1))])
        share = [whole(1, 0, 0, 0)]
        dear = [NOUGHT, (5, 1), NOUGHT, (5, 1)]
        self.check_all(net, share, whole(1, 0, 0, 0), dear, dear, NOUGHT, NOUGHT)
        share = [whole(0, 1, 0, 0)]
        self.check_all(net, share, whole(0, 1, 0, 0), dear, dear, (5, 1), (5, 1))
        share = [whole(0, 0, 1, 0)]
        self.check_all(net, share, whole(0, 0, 1, 0), whole(0, 5, 7, 5), whole(0, 5, 14, 5), (7, 1), (7, 2))

    def test_several_wishes_on_a_road(self):
        net = made_net(2, [road(0, 1, (1, 1), (1, 2)), road(0, 1, (0, 1), (1, 3), True)])
        share = [[(1, 2), NOUGHT], [(1, 3), (1, 6)], [NOUGHT, (1, 4)]]
        loads = [(5, 6), (5, 12)]
        times = [(17, 12), (5, 36)]
        dear = [(11, 6), (5, 18)]
        whole_sum = written(Fraction(5, 6) * Fraction(17, 12) + Fraction(5, 12) * Fraction(5, 36))
        told = written(Fraction(5, 6) + Fraction(25, 144) + Fraction(25, 864))
        self.check_all(net, share, loads, times, dear, whole_sum, told)

    def test_the_net_with_a_road_across(self):
        self.check_all(
            NET, [ACROSS], ACROSS,
            [(2, 1), (1, 1), (1, 1), (2, 1), NOUGHT, (2, 1), (3, 1), (1, 2), (1, 1), (1, 1), NOUGHT],
            [(4, 1), (1, 1), (1, 1), (4, 1), NOUGHT, (2, 1), (3, 1), (1, 2), (1, 1), (1, 1), NOUGHT],
            (8, 1), (4, 1),
        )

    def test_rings_are_load_too(self):
        share = [more(STRAIGHT, [9, 10], 3)]
        self.assertEqual(load_list(NET, share)[9:], whole(3, 3))
        self.assertEqual(road_times(NET, share)[9:], whole(4, 0))
        self.assertEqual(dear_times(NET, share)[9:], whole(7, 0))
        self.assertEqual(sum_of_times(NET, share), (16, 1))
        self.assertEqual(told_number(NET, share), written(3 + 3 + Fraction(9, 2)))

    def test_great_numbers(self):
        base, slope, load = GREAT, GREAT - 2, GREAT - 1
        net = made_net(2, [road(0, 1, (base, 1), (slope, 1)), road(0, 1, (1, base), (1, slope))])
        self.check_all(
            net, [whole(load, 0), [NOUGHT, (1, load)]], [(load, 1), (1, load)],
            [(base + slope * load, 1), written(Fraction(1, base) + Fraction(1, slope * load))],
            [(base + 2 * slope * load, 1), written(Fraction(1, base) + Fraction(2, slope * load))],
            written(load * base + slope * load ** 2 + Fraction(1, base * load) + Fraction(1, slope * load ** 2)),
            written(load * base + Fraction(slope * load ** 2, 2) + Fraction(1, base * load)
                    + Fraction(1, 2 * slope * load ** 2)),
        )

    def test_drawn_shares(self):
        for net, wishes, share in drawn_shares(93, 60):
            bases = values([road[2] for road in net[1]])
            slopes = values([road[3] for road in net[1]])
            loads = [sum(row) for row in zip(*[values(flow) for flow in share])]
            rows = list(zip(bases, slopes, loads))
            self.check_all(
                net, share, [written(x) for x in loads],
                [written(a + b * x) for a, b, x in rows],
                [written(a + 2 * b * x) for a, b, x in rows],
                written(sum(x * (a + b * x) for a, b, x in rows)),
                written(sum(a * x + b * x * x / 2 for a, b, x in rows)),
            )


class RoadsOverTest(unittest.TestCase):
    """[11]: roads that are over for a wish."""

    def check_over(self, net, wishes, share, over, times=None):
        told = roads_over(net, wishes, share, times)
        self.assertEqual(told, over)
        self.assertIs(type(told), list)
        for pair in told:
            self.assertEqual([type(pair), type(pair[0]), type(pair[1])], [tuple, int, int])
        if times is None:
            self.assertEqual(roads_over(net, wishes, share), over)

    def test_a_share_that_rests(self):
        # With 1 on both of 0 and 3 each of the three ways takes 2.
        net = made_net(4, NET[1][:5])
        wish = (0, 3, (1, 1), False)
        self.check_over(net, [wish], [whole(1, 0, 0, 1, 1)], [])
        self.check_over(net, [wish, wish], [whole(1, 1, 0, 0, 0), whole(0, 0, 1, 1, 0)], [])

    def test_a_share_that_does_not_rest(self):
        net = made_net(4, NET[1][:5])
        wish = (0, 3, (1, 1), False)
        half = [(1, 2), (1, 2), (1, 2), (1, 2), NOUGHT]
        self.check_over(net, [wish], [half], [(0, 1), (0, 2)])
        self.check_over(net, [wish], [whole(1, 1, 0, 0, 0)], [(0, 1)])
        self.check_over(net, [wish], [whole(0, 0, 1, 1, 0)], [(0, 2)])

    def test_sorted_by_wish_then_road(self):
        net = made_net(3, [road(0, 2, (9, 1)), road(0, 1), road(1, 2), road(0, 2, (9, 1)), road(0, 2, (8, 1))])
        wish = (0, 2, (3, 1), False)
        one = whole(1, 0, 0, 1, 1)
        other = whole(1, 2, 2, 0, 0)
        self.check_over(net, [wish] * 3, [one, other, one], [(0, 0), (0, 3), (0, 4), (1, 0), (2, 0), (2, 3), (2, 4)])

    def test_by_times_handed_in(self):
        net = made_net(2, [road(0, 1, (1, 1)), road(0, 1, (2, 1))])
        wish = (0, 1, (2, 1), False)
        share = [whole(1, 1)]
        self.check_over(net, [wish], share, [(0, 1)])
        self.check_over(net, [wish], share, [(0, 0)], whole(5, 4))
        self.check_over(net, [wish], share, [], whole(4, 4))
        self.check_over(net, [wish], share, [], whole(0, 0))
        self.check_over(net, [wish], share, [(0, 0)], [(1, GREAT - 1), (1, GREAT)])

    def test_its_own_times_come_of_all_flows(self):
        net = made_net(2, [road(0, 1, (0, 1), (1, 1)), road(0, 1, (1, 1))])
        wish = (0, 1, (1, 1), False)
        self.check_over(net, [wish], [whole(1, 0)], [])
        self.check_over(net, [wish, wish], [whole(1, 0)] * 2, [(0, 0), (1, 0)])
        self.check_over(net, [wish, wish], [whole(1, 0), whole(0, 1)], [])

    def test_own_times_handed_in_make_no_difference(self):
        for net, wishes, share in drawn_shares(94, 40):
            self.assertEqual(roads_over(net, wishes, share, road_times(net, share)), roads_over(net, wishes, share))

    def test_heights_by_lanes(self):
        net = made_net(2, [road(0, 1, (2, 1)), road(0, 1, (1, 1), (0, 1), True)])
        share = [whole(1, 0)]
        self.check_over(net, [(0, 1, (1, 1), False)], share, [])
        self.check_over(net, [(0, 1, (1, 1), True)], share, [(0, 0)])
        wishes = [(0, 1, (1, 1), False), (0, 1, (1, 1), True)]
        self.check_over(net, wishes, share * 2, [(1, 0)])

    def test_a_start_without_height(self):
        share = [more(STRAIGHT, [9, 10], 1)]
        self.check_over(NET, [WISH], [STRAIGHT], [])
        self.check_over(NET, [WISH], share, [(0, 9), (0, 10)])
        self.check_over(NET, [WISH], share, [(0, 9), (0, 10)], [NOUGHT] * 11)

    def test_flow_on_a_ring(self):
        net = made_net(3, [road(0, 1), road(1, 2), road(2, 1, (1, 1))])
        wish = (0, 2, (1, 1), False)
        self.check_over(net, [wish], [whole(1, 2, 1)], [(0, 2)])
        self.check_over(net, [wish], [whole(1, 1, 0)], [])
        self.check_over(net, [wish], [whole(1, 2, 1)], [], [NOUGHT] * 3)

    def test_roads_without_flow_are_not_over(self):
        net = made_net(2, [road(0, 1, (1, 1)), road(0, 1, (2, 1)), road(1, 0, (9, 1))])
        self.check_over(net, [(0, 1, (1, 1), False)], [whole(1, 0, 0)], [])

    def test_drawn_shares(self):
        draw = random.Random(95)
        for net, wishes, share in drawn_shares(96, 80):
            own = road_times(net, share)
            drawn = [written(draw.choice((0, drawn_amount(draw)))) for road in net[1]]
            for times in (own, drawn):
                over = []
                for place, wish in enumerate(wishes):
                    heights = values(plain_heights(net, wish, times))
                    for number, (start, end, base, slope, lane) in enumerate(net[1]):
                        if share[place][number] == NOUGHT:
                            continue
                        if heights[start] is None or heights[start] + Fraction(*times[number]) > heights[end]:
                            over.append((place, number))
                self.check_over(net, wishes, share, over, times)
            self.assertEqual(roads_over(net, wishes, share), roads_over(net, wishes, share, own))


class NoShareTest(unittest.TestCase):
    """[11]: what is no share is refused with NoShare and no other class."""

    def check_refused(self, wishes, share):
        with self.subTest(share=repr(share)):
            self.assertIs(refusal_of(lambda: roads_over(NET, wishes, share)), NoShare)
            self.assertIs(refusal_of(lambda: roads_over(NET, wishes, share, [NOUGHT] * 11)), NoShare)

    def test_of_one_wish(self):
        for share in bad_shares([WISH], [STRAIGHT]):
            self.check_refused([WISH], share)

    def test_of_several_wishes(self):
        for share in bad_shares([BUS, WISH], [ACROSS, STRAIGHT]):
            self.check_refused([BUS, WISH], share)

    def test_lanes_and_below_nought(self):
        self.check_refused([WISH], [whole(1, 1, 0, 0, 0, 0, 1, 0, 0, 0, 0)])
        self.check_refused([WISH], [more(STRAIGHT, [4, 7], -1)])


class BelongingTest(unittest.TestCase):
    """[2]: what is handed over stays as it was, and what is given belongs to the caller."""

    def asked(self, net, wishes, share):
        return [
            share_fits(net, wishes, share), load_list(net, share), road_times(net, share), dear_times(net, share),
            sum_of_times(net, share), told_number(net, share), roads_over(net, wishes, share),
            roads_over(net, wishes, share, [NOUGHT] * 11),
        ]

    def test_what_is_handed_over_stays(self):
        handed = copy.deepcopy((NET, [WISH, BUS], [STRAIGHT, ACROSS]))
        kept = copy.deepcopy(handed)
        times = whole(*range(11))
        self.asked(*handed)
        roads_over(*handed, times)
        self.assertEqual(handed, kept)
        self.assertEqual(times, whole(*range(11)))

    def test_what_is_refused_stays(self):
        inner = [1, 2]
        for share in ([], [STRAIGHT[:3]], [changed(STRAIGHT, 3, inner)], [STRAIGHT] * 2, [[]], [[NOUGHT] * 11]):
            handed = copy.deepcopy((NET, [WISH], share))
            kept = copy.deepcopy(handed)
            self.assertIs(share_fits(*handed), False)
            self.assertIs(refusal_of(lambda: roads_over(*handed)), NoShare)
            self.assertEqual(handed, kept)

    def test_the_same_question_twice(self):
        handed = copy.deepcopy((NET, [WISH, BUS], [STRAIGHT, ACROSS]))
        self.assertEqual(self.asked(*handed), self.asked(*handed))

    def test_lists_told_are_not_shared(self):
        net, wishes, share = copy.deepcopy((NET, [WISH], [STRAIGHT]))
        for deed in (load_list, road_times, dear_times, lambda net, share: roads_over(net, wishes, share)):
            first = deed(net, share)
            second = deed(net, share)
            kept = copy.deepcopy(second)
            first.append(NOUGHT)
            first[0] = None
            self.assertEqual(second, kept)
            self.assertEqual(deed(net, share), kept)
        self.assertEqual((net, share), (NET, [STRAIGHT]))

    def test_changing_a_share_changes_nothing_told_before(self):
        net, share = copy.deepcopy((NET, [STRAIGHT]))
        told = [load_list(net, share), road_times(net, share), dear_times(net, share)]
        kept = copy.deepcopy(told)
        share[0][0] = (9, 1)
        share.append(ACROSS)
        net[1].pop()
        self.assertEqual(told, kept)


if __name__ == "__main__":
    unittest.main()
