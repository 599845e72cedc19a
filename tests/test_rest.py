import copy
import random
import unittest
from fractions import Fraction

from carried import (
    drawn_carried, drawn_other, few, great, loads_of, lying_over, noughts, small, squares,
)
from crowdroads.flows import load_list, road_times, roads_over, share_fits, told_number
from crowdroads.fractions import is_fraction
from crowdroads.heights import height_list
from crowdroads.nets import made_net
from crowdroads.rest import resting_share
from crowdroads.wishes import made_wishes, ways_of
from drawn import paths, plain_fits, plain_heights, values, written
from handmade import ACROSS, FREE, GROWS, LANE, NOUGHT, ONE, RINGS, STAYS, STEPS, road, wish
from limits import within
from samples import whole

def rested(net, wishes):
    return within(5, lambda: resting_share(net, wishes))


def times_told(net, wishes):
    """What is the same in all shares that rest."""
    share, heights = rested(net, wishes)
    return road_times(net, share), heights


class RestingTest(unittest.TestCase):
    """What each share told here has to keep to."""

    def check_rests(self, net, wishes):
        with self.subTest(net=net, wishes=wishes):
            told = rested(net, wishes)
            self.assertIs(type(told), tuple)
            share, heights = told
            self.assertIs(type(share), list)
            self.assertIs(type(heights), list)
            self.assertTrue(share_fits(net, wishes, share))
            self.assertEqual(roads_over(net, wishes, share), [])
            times = road_times(net, share)
            self.assertEqual(heights, [height_list(net, one, times) for one in wishes])
        return share, heights

    def check_each(self, pairs):
        for net, wishes in pairs:
            self.check_rests(net, wishes)

    def check_told(self, net, wishes, share, heights):
        made_wishes(net, wishes)
        self.assertEqual(self.check_rests(net, wishes), (share, heights))

    def check_heights(self, net, wishes, heights):
        """Of nets in which several shares rest."""
        made_wishes(net, wishes)
        self.assertEqual(self.check_rests(net, wishes)[1], heights)


class ByHandTest(RestingTest):
    """[13]: a share that rests, told with heights."""

    def test_one_road(self):
        net = made_net(2, [(0, 1, (3, 1), (2, 1), False)])
        self.check_told(net, [wish(0, 1, 5)], [[(5, 1)]], [[NOUGHT, (13, 1)]])
        self.check_told(net, [wish(0, 1, Fraction(1, 6))], [[(1, 6)]], [[NOUGHT, (10, 3)]])

    def test_one_way_of_several_roads(self):
        net = made_net(4, [(2, 1, (1, 2), (1, 3), False), (0, 2, (3, 1), (2, 1), False)])
        self.check_told(net, [wish(0, 1, 2)], [whole(2, 2)], [[NOUGHT, (49, 6), (7, 1), None]])

    def test_two_roads_side_by_side(self):
        net = made_net(2, [road(0, 1, GROWS), road(0, 1, STAYS)])
        half = Fraction(1, 2)
        self.check_told(net, [wish(0, 1, half)], [[(1, 2), NOUGHT]], [[NOUGHT, (1, 2)]])
        self.check_told(net, [wish(0, 1, 1)], [whole(1, 0)], [whole(0, 1)])
        self.check_told(net, [wish(0, 1, 1 + half)], [[ONE, (1, 2)]], [whole(0, 1)])
        self.check_told(net, [wish(0, 1, 3)], [whole(1, 2)], [whole(0, 1)])

    def test_unlike_slopes(self):
        net = made_net(2, [(0, 1, NOUGHT, (2, 1), False), (0, 1, NOUGHT, (1, 1), False), (1, 0, ONE, ONE, False)])
        self.check_told(net, [wish(0, 1, 3)], [whole(1, 2, 0)], [whole(0, 2)])
        self.check_told(net, [wish(0, 1, 1)], [[(1, 3), (2, 3), NOUGHT]], [[NOUGHT, (2, 3)]])

    def test_a_road_across(self):
        self.check_told(ACROSS, [wish(0, 3, 1)], [whole(1, 0, 0, 1, 1)], [whole(0, 1, 1, 2)])
        self.check_told(ACROSS, [wish(0, 3, 2)], [whole(1, 1, 1, 1, 0)], [whole(0, 1, 1, 2)])
        flow = [ONE, (1, 2), (1, 2), ONE, (1, 2)]
        self.check_told(ACROSS, [wish(0, 3, Fraction(3, 2))], [flow], [whole(0, 1, 1, 2)])

    def test_places_without_heights(self):
        net = made_net(5, [road(0, 1, GROWS), road(2, 1, FREE), road(3, 4, FREE), road(4, 3, FREE), road(4, 1, FREE)])
        self.check_told(net, [wish(0, 1, 2)], [whole(2, 0, 0, 0, 0)], [whole(0, 2) + [None] * 3])

    def test_lanes(self):
        slow = wish(0, 1, 1)
        bus = wish(0, 1, 1, True)
        self.check_told(LANE, [slow], [whole(1, 0)], [whole(0, 1)])
        self.check_told(LANE, [bus], [[(1, 2), (1, 2)]], [[NOUGHT, (1, 2)]])
        self.check_told(LANE, [slow, bus], [whole(1, 0), whole(0, 1)], [whole(0, 1)] * 2)
        self.check_told(LANE, [wish(0, 1, 3), bus], [whole(3, 0), whole(0, 1)], [whole(0, 3), whole(0, 1)])
        self.check_told(LANE, [wish(0, 1, 3, True), slow], [whole(1, 2), whole(1, 0)], [whole(0, 2)] * 2)

    def test_wishes_that_meet(self):
        net = made_net(3, [road(0, 2, GROWS), road(1, 2, GROWS), road(0, 1, FREE)])
        share = [[(3, 2), (1, 2), (1, 2)], [NOUGHT, ONE, NOUGHT]]
        heights = [[NOUGHT, NOUGHT, (3, 2)], [None, NOUGHT, (3, 2)]]
        self.check_told(net, [wish(0, 2, 2), wish(1, 2, 1)], share, heights)

    def test_three_wishes(self):
        net = made_net(4, [
            road(0, 3, GROWS), road(1, 3, GROWS), road(2, 3, GROWS), road(0, 1, STAYS), road(1, 2, STAYS),
        ])
        share = [whole(2, 0, 0, 0, 0), whole(0, 3, 0, 0, 0), whole(0, 0, 5, 0, 0)]
        heights = [whole(0, 1, 2, 2), [None] + whole(0, 1, 3), [None, None] + whole(0, 5)]
        self.check_told(net, [wish(0, 3, 2), wish(1, 3, 3), wish(2, 3, 5)], share, heights)

    def test_alike_wishes(self):
        net = made_net(2, [road(0, 1, GROWS), road(0, 1, STAYS)])
        for many in (1, 2, 3):
            self.check_heights(net, [wish(0, 1, 2)] * many, [whole(0, 1)] * many)
            self.check_heights(ACROSS, [wish(0, 3, Fraction(1, many))] * many, [whole(0, 1, 1, 2)] * many)


class NoughtTest(RestingTest):
    """[13]: roads that take no time, or whose time doesn't grow."""

    def test_nought_all_over(self):
        for count in (1, 2, 10):
            net = made_net(2, [road(0, 1, FREE)] * count)
            self.check_heights(net, [wish(0, 1, Fraction(7, 3))], [whole(0, 0)])
        net = made_net(2, [road(0, 1, FREE)] * 3)
        self.check_heights(net, [wish(0, 1, 2), wish(0, 1, 10 ** 59), wish(0, 1, 3, True)], [whole(0, 0)] * 3)
        net = made_net(3, [road(0, 1, FREE), road(1, 2, FREE)] * 2)
        heights = [whole(0, 0, 0), [None] + whole(0, 0), whole(0, 0, 0)]
        self.check_heights(net, [wish(0, 2, 5), wish(1, 2, 1), wish(0, 1, 1)], heights)

    def test_nought_on_whole_ways_alone(self):
        net = made_net(3, [road(0, 1, FREE), road(1, 2, FREE), road(0, 2, GROWS), road(0, 2, STAYS), road(0, 1, STAYS)])
        self.check_told(net, [wish(0, 2, 4)], [whole(4, 4, 0, 0, 0)], [whole(0, 0, 0)])
        share = [whole(4, 4, 0, 0, 0), whole(0, 2, 0, 0, 0)]
        self.check_told(net, [wish(0, 2, 4), wish(1, 2, 2)], share, [whole(0, 0, 0), [None] + whole(0, 0)])

    def test_a_time_of_nought_beside_one_above_it(self):
        net = made_net(3, [road(0, 1, FREE), road(0, 1, FREE), road(1, 2, GROWS), road(1, 2, GROWS)])
        heights = [whole(0, 0, 2), whole(0, 0, 2), [None] + whole(0, 2)]
        self.check_heights(net, [wish(0, 1, 6), wish(0, 2, 3), wish(1, 2, 1)], heights)

    def test_slopes_of_nought(self):
        bases = (5, 3, 4, 3, 9)
        net = made_net(2, [(0, 1, (base, 1), NOUGHT, False) for base in bases])
        self.check_heights(net, [wish(0, 1, 8)], [whole(0, 3)])
        self.check_told(made_net(2, net[1][:3]), [wish(0, 1, 8)], [whole(0, 8, 0)], [whole(0, 3)])

    def test_bases_of_nought(self):
        net = made_net(2, [(0, 1, NOUGHT, (1, slope), False) for slope in range(1, 5)])
        self.check_told(net, [wish(0, 1, 5)], [[(1, 2), (1, 1), (3, 2), (2, 1)]], [[NOUGHT, (1, 2)]])

    def test_a_single_slope(self):
        net = made_net(2, [road(0, 1, GROWS), (0, 1, (2, 1), NOUGHT, False), (0, 1, (2, 1), NOUGHT, False)])
        share, heights = self.check_rests(net, [wish(0, 1, 10)])
        self.assertEqual(heights, [whole(0, 2)])
        self.assertEqual(share[0][0], (2, 1))

    def test_rings_without_time(self):
        self.check_heights(RINGS, [wish(0, 4, 3)], [whole(0, 0, 0, 1, 1)])
        self.check_heights(RINGS, [wish(0, 4, Fraction(1, 2))], [[NOUGHT] * 3 + [(1, 2)] * 2])
        self.check_heights(RINGS, [wish(1, 2, 7), wish(2, 1, 7)], [whole(0, 0, 0, 0, 0)] * 2)

    def test_drawn_nets_with_noughts(self):
        self.check_each(drawn_carried(211, 400, noughts))
        self.check_each(drawn_carried(212, 400, few))

    def test_drawn_nets_with_noughts_on_all_bases_or_slopes(self):
        for place, pairs in ((2, drawn_carried(213, 80, few)), (3, drawn_carried(214, 80, small))):
            for (many, roads), wishes in pairs:
                roads = [one[:place] + (NOUGHT,) + one[place + 1:] for one in roads]
                self.check_rests((many, roads), wishes)
                roads = [one[:2] + FREE + one[4:] for one in roads]
                share, heights = self.check_rests((many, roads), wishes)
                self.assertEqual({height for own in heights for height in own} - {None}, {NOUGHT})


class ManyTest(RestingTest):
    """[13]: many ways, alike roads, great numbers, and that it is told soon."""

    def test_roads_alike(self):
        for count in range(1, 11):
            net = made_net(2, [road(0, 1, GROWS)] * count)
            part = written(Fraction(2, count))
            self.check_told(net, [wish(0, 1, 2)], [[part] * count], [[NOUGHT, part]])

    def test_ten_ways_with_the_same_times(self):
        self.assertEqual(len(ways_of(STEPS, wish(0, 2, 1))), 10)
        share = [[(1, 2)] * 2 + [(1, 5)] * 5]
        self.check_told(STEPS, [wish(0, 2, 1)], share, [[NOUGHT, (1, 2), (7, 10)]])
        net = made_net(4, [road(0, 1, GROWS)] * 2 + [road(1, 2, FREE)] * 2 + [road(2, 3, STAYS)] * 2)
        self.check_heights(net, [wish(0, 3, 4)], [whole(0, 2, 2, 3)])
        self.check_heights(net, [wish(0, 3, 4), wish(2, 3, 4)], [whole(0, 2, 2, 3), [None, None] + whole(0, 1)])

    def test_ten_ways_of_three_wishes(self):
        net = made_net(4, [road(0, 1, GROWS)] * 3 + [road(1, 2, GROWS)] * 3 + [road(2, 3, GROWS)] * 4)
        wishes = [wish(0, 1, 3), wish(1, 2, 6), wish(2, 3, 12)]
        share = [whole(1, 1, 1) + whole(*[0] * 7), whole(0, 0, 0, 2, 2, 2) + whole(*[0] * 4)]
        share.append(whole(*[0] * 6) + whole(3, 3, 3, 3))
        heights = [whole(0, 1, 3, 6), [None] + whole(0, 2, 5), [None, None] + whole(0, 3)]
        self.check_told(net, wishes, share, heights)

    def test_great_numbers(self):
        base = 10 ** 12 - 1
        net = made_net(2, [(0, 1, (base, 1), (base, 2), False), (0, 1, (base - 1, 1), (base, 5), False)])
        self.check_rests(net, [wish(0, 1, 999999)])
        share, heights = self.check_rests(net, [wish(0, 1, Fraction(1, base))])
        self.assertEqual(share, [[NOUGHT, (1, base)]])
        self.check_each(drawn_carried(221, 150, great))

    def test_numbers_of_sixty_figures(self):
        draw = random.Random(222)

        def sixty():
            return written(Fraction(draw.randint(10 ** 59, 10 ** 60 - 1), draw.randint(10 ** 59, 10 ** 60 - 1)))
        net = made_net(2, [(0, 1, sixty(), sixty(), False) for unused in range(5)])
        self.check_rests(net, [(0, 1, sixty(), False)])
        self.check_rests(net, [(0, 1, (10 ** 59, 1), False)])
        net = made_net(4, [one[:2] + (sixty(), sixty(), False) for one in ACROSS[1]])
        self.check_rests(net, [(0, 3, sixty(), False), (0, 2, sixty(), False)])

    def test_drawn_nets(self):
        pairs = drawn_carried(223, 250, small)
        self.check_each(pairs)
        self.assertEqual({len(wishes) for net, wishes in pairs}, {1, 2, 3})

    def test_drawn_nets_by_plain_looks(self):
        for net, wishes in drawn_carried(224, 60, small) + drawn_carried(225, 60, few):
            share, heights = rested(net, wishes)
            times = [written(Fraction(*one[2]) + Fraction(*one[3]) * load) for one, load in zip(net[1], loads_of(share))]
            self.assertTrue(all(plain_fits(net, one, flow) for one, flow in zip(wishes, share)))
            self.assertEqual(heights, [plain_heights(net, one, times) for one in wishes])
            # Each road that a wish uses lies on its heights.
            self.assertEqual(lying_over(net, share, times, heights), 0)

    def test_soon_with_many_ways(self):
        pairs = [pair for style in (noughts, few, small, great) for pair in drawn_carried(226, 20, style, fewest_ways=8)]
        within(20, lambda: [resting_share(net, wishes) for net, wishes in pairs])
        within(20, lambda: [resting_share(STEPS, [wish(0, 2, amount)]) for amount in range(1, 80)])

    def test_somewhat_beyond_the_bounds(self):
        net = (7, [road(place, place + 1, GROWS) for place in range(6)] * 2 + [road(0, 6, STAYS)])
        share, heights = self.check_rests(net, [wish(place, 6, 1) for place in range(2, 6)])
        self.assertEqual(len(paths(net, wish(2, 6))), 16)
        self.assertEqual(heights[0], [None, None, NOUGHT, (1, 2), (3, 2), (3, 1), (5, 1)])


class SameTest(RestingTest):
    """[13]: times and heights are the same in all shares that rest."""

    def check_same_in_any_order(self, net, wishes):
        times, heights = times_told(net, wishes)
        for order in ((1, 0), (2, 1, 0), (1, 2, 0)):
            if len(order) == len(wishes):
                told = times_told(net, [wishes[place] for place in order])
                self.assertEqual(told, (times, [heights[place] for place in order]))

    def test_wishes_in_another_order(self):
        for pairs in (drawn_carried(231, 120, noughts), drawn_carried(232, 120, small), drawn_carried(233, 40, great)):
            for net, wishes in pairs:
                self.check_same_in_any_order(net, wishes)

    def test_a_wish_parted_into_two_like_it(self):
        draw = random.Random(234)
        for net, wishes in drawn_carried(235, 100, few, most_wishes=2) + drawn_carried(236, 100, small, most_wishes=2):
            place = draw.randrange(len(wishes))
            start, end, amount, lane = wishes[place]
            part = Fraction(*amount) * Fraction(draw.randint(1, 6), 7)
            parted = [(start, end, written(part), lane), (start, end, written(Fraction(*amount) - part), lane)]
            times, heights = times_told(net, wishes)
            told = times_told(net, wishes[:place] + parted + wishes[place + 1:])
            self.assertEqual(told, (times, heights[:place + 1] + heights[place:]))

    def test_roads_in_another_order(self):
        draw = random.Random(237)
        for net, wishes in drawn_carried(238, 60, noughts) + drawn_carried(239, 60, small):
            order = draw.sample(range(len(net[1])), len(net[1]))
            times, heights = times_told(net, wishes)
            told = times_told((net[0], [net[1][number] for number in order]), wishes)
            self.assertEqual(told, ([times[number] for number in order], heights))


class ToldNumberTest(unittest.TestCase):
    """[14]: no share has a lesser told number, and by how much another one's is more."""

    def check_more(self, net, rest, heights, other):
        more = Fraction(*told_number(net, other)) - Fraction(*told_number(net, rest))
        apart = squares(net, loads_of(rest), loads_of(other)) / 2
        over = lying_over(net, other, road_times(net, rest), heights)
        self.assertEqual(more, apart + over)
        self.assertGreaterEqual(more, 0)

    def test_other_shares(self):
        draw = random.Random(241)
        styles = ((242, noughts), (243, few), (244, small), (245, great))
        for pairs in [drawn_carried(seed, 60, style) for seed, style in styles]:
            for net, wishes in pairs:
                rest, heights = rested(net, wishes)
                for unused in range(3):
                    other = drawn_other(draw, net, wishes)
                    self.assertTrue(share_fits(net, wishes, other))
                    self.check_more(net, rest, heights, other)

    def test_by_hand(self):
        rest, heights = rested(ACROSS, [wish(0, 3, 1)])
        self.assertEqual(told_number(ACROSS, rest), (1, 1))
        other = [[(1, 2)] * 4 + [NOUGHT]]
        self.assertEqual(told_number(ACROSS, other), (5, 4))
        self.check_more(ACROSS, rest, heights, other)
        self.check_more(ACROSS, rest, heights, [whole(1, 1, 0, 0, 0)])

    def test_a_share_that_rests_too(self):
        net = made_net(2, [road(0, 1, STAYS)] * 3)
        rest, heights = rested(net, [wish(0, 1, 3)])
        for other in (whole(3, 0, 0), whole(0, 1, 2), whole(1, 1, 1)):
            self.check_more(net, rest, heights, [other])
            self.assertEqual(told_number(net, [other]), told_number(net, rest))


class OtherAmountsTest(unittest.TestCase):
    """[24]: the same wishes with other amounts."""

    def check_amounts(self, net, now, then):
        share_now, heights_now = rested(net, now)
        share_then, heights_then = rested(net, then)
        slower = Fraction(0)
        for one, other, own_now, own_then in zip(now, then, heights_now, heights_then):
            later = values(own_then)[one[1]] - values(own_now)[one[1]]
            slower += later * (Fraction(*other[2]) - Fraction(*one[2]))
        told = squares(net, loads_of(share_now), loads_of(share_then))
        told += lying_over(net, share_then, road_times(net, share_now), heights_now)
        told += lying_over(net, share_now, road_times(net, share_then), heights_then)
        self.assertEqual(slower, told)
        self.assertGreaterEqual(slower, 0)

    def test_other_amounts(self):
        draw = random.Random(251)
        styles = ((252, noughts), (253, few), (254, small), (255, great))
        for pairs in [drawn_carried(seed, 60, style) for seed, style in styles]:
            for net, wishes in pairs:
                factors = [Fraction(draw.randint(1, 9), draw.randint(1, 3)) for unused in wishes]
                then = [
                    (start, end, written(Fraction(*amount) * factor), lane)
                    for (start, end, amount, lane), factor in zip(wishes, factors)
                ]
                self.check_amounts(net, wishes, then)

    def test_one_amount_alone_grows(self):
        for net, wishes in drawn_carried(256, 60, few) + drawn_carried(257, 60, small):
            for place, (start, end, amount, lane) in enumerate(wishes):
                grown = (start, end, written(Fraction(*amount) * 3), lane)
                then = wishes[:place] + [grown] + wishes[place + 1:]
                self.check_amounts(net, wishes, then)
                now = values(rested(net, wishes)[1][place])[end]
                self.assertGreaterEqual(values(rested(net, then)[1][place])[end], now)


class BelongingTest(unittest.TestCase):
    """[2]: what is handed over stays as it was, and what is given belongs to the caller."""

    def test_kinds(self):
        for net, wishes in drawn_carried(261, 40, small) + [(RINGS, [wish(0, 4, 1, True)] * 2)]:
            share, heights = rested(net, wishes)
            for row in share + heights:
                self.assertIs(type(row), list)
            self.assertTrue(all(is_fraction(amount) for flow in share for amount in flow))
            self.assertEqual([len(flow) for flow in share], [len(net[1])] * len(wishes))
            self.assertEqual([len(own) for own in heights], [net[0]] * len(wishes))

    def test_what_is_handed_over_stays(self):
        for net, wishes in drawn_carried(262, 40, few) + [(RINGS, [wish(0, 4, 1)] * 2)]:
            kept = copy.deepcopy((net, wishes))
            rested(net, wishes)
            self.assertEqual((net, wishes), kept)

    def test_the_same_question_twice(self):
        for net, wishes in drawn_carried(263, 40, noughts) + drawn_carried(264, 40, small):
            first = rested(net, wishes)
            rested(ACROSS, [wish(0, 3, 1)])
            self.assertEqual(rested(*copy.deepcopy((net, wishes))), first)

    def test_lists_told_are_not_shared(self):
        wishes = [wish(0, 4, 1), wish(0, 4, 1), wish(0, 4, 1)]
        first = rested(RINGS, wishes)
        kept = copy.deepcopy(first)
        rows = first[0] + first[1]
        self.assertEqual(len({id(row) for row in rows}), len(rows))
        second = rested(RINGS, wishes)
        for row in rows + list(first):
            row[0] = None
            row.append(NOUGHT)
        self.assertEqual(second, kept)
        self.assertEqual(rested(RINGS, wishes), kept)

    def test_changing_what_was_handed_over_changes_nothing_told_before(self):
        net, wishes = copy.deepcopy((ACROSS, [wish(0, 3, 1)]))
        told = rested(net, wishes)
        kept = copy.deepcopy(told)
        net[1].pop()
        wishes.append(wish(0, 3, 1))
        self.assertEqual(told, kept)
        self.assertEqual(rested(net, wishes[:1]), ([[(1, 2)] * 4], [[NOUGHT, (1, 2), (1, 1), (3, 2)]]))

    def test_loads_of_all_wishes_come_to_their_amounts(self):
        net = made_net(2, [road(0, 1, FREE), road(0, 1, FREE)])
        share = rested(net, [wish(0, 1, 2), wish(0, 1, 3)])[0]
        self.assertEqual(sum(values(load_list(net, share))), 5)


if __name__ == "__main__":
    unittest.main()
