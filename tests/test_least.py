import copy
import random
import unittest
from fractions import Fraction

from carried import (
    drawn_carried, drawn_other, few, great, loads_of, lying_over, noughts, small, squares,
)
from crowdroads.errors import NoNet
from crowdroads.flows import dear_times, road_times, roads_over, share_fits, sum_of_times
from crowdroads.fractions import is_fraction
from crowdroads.heights import height_list
from crowdroads.least import four_thirds, least_share, toll_list, tolled_net
from crowdroads.nets import made_net
from crowdroads.rest import resting_share
from drawn import values, written
from handmade import ACROSS, FREE, GROWS, LANE, NOUGHT, ONE, RINGS, STAYS, STEPS, road, wish
from limits import within
from samples import Odd, changed, lists_in, no_fractions, refusal_of, whole

STYLES = (noughts, few, small, great)
# One road that grows beside one that doesn't: with 1 going, rest is as far from the least sum as it can be.
BESIDE = made_net(2, [road(0, 1, GROWS), road(0, 1, STAYS)])


def least(net, wishes):
    return within(5, lambda: least_share(net, wishes))


def thirds(net, wishes):
    return within(10, lambda: four_thirds(net, wishes))


def sum_by(net, share):
    return Fraction(*sum_of_times(net, share))


class LeastShareTest(unittest.TestCase):
    """[15]: a share with the least sum of times, told with heights by its dear times."""

    def check_least(self, net, wishes):
        with self.subTest(net=net, wishes=wishes):
            told = least(net, wishes)
            self.assertIs(type(told), tuple)
            share, heights = told
            self.assertTrue(share_fits(net, wishes, share))
            times = dear_times(net, share)
            self.assertEqual(roads_over(net, wishes, share, times), [])
            self.assertEqual(heights, [height_list(net, one, times) for one in wishes])
            for row in [share, heights] + share + heights:
                self.assertIs(type(row), list)
        return share, heights

    def check_told(self, net, wishes, share, heights):
        self.assertEqual(self.check_least(net, wishes), (share, heights))

    def test_one_road(self):
        net = made_net(3, [(0, 1, (3, 1), (2, 1), False)])
        self.check_told(net, [wish(0, 1, 5)], [[(5, 1)]], [whole(0, 23) + [None]])

    def test_two_roads_side_by_side(self):
        half = (1, 2)
        self.check_told(BESIDE, [wish(0, 1, Fraction(1, 4))], [[(1, 4), NOUGHT]], [[NOUGHT, half]])
        self.check_told(BESIDE, [wish(0, 1, Fraction(1, 2))], [[half, NOUGHT]], [whole(0, 1)])
        self.check_told(BESIDE, [wish(0, 1, 1)], [[half, half]], [whole(0, 1)])
        self.check_told(BESIDE, [wish(0, 1, 3)], [[half, (5, 2)]], [whole(0, 1)])

    def test_a_road_across(self):
        self.check_told(ACROSS, [wish(0, 3, 1)], [[(1, 2)] * 4 + [NOUGHT]], [whole(0, 1, 1, 2)])

    def test_lanes(self):
        wishes = [wish(0, 1, 3), wish(0, 1, 1, True)]
        self.check_told(LANE, wishes, [whole(3, 0), whole(0, 1)], [whole(0, 6), whole(0, 2)])
        wishes = [wish(0, 1, 1), wish(0, 1, 3, True)]
        self.check_told(LANE, wishes, [whole(1, 0), whole(1, 2)], [whole(0, 4)] * 2)

    def test_ten_ways_and_rings(self):
        self.check_told(STEPS, [wish(0, 2, 1)], [[(1, 2)] * 2 + [(1, 5)] * 5], [[NOUGHT, ONE, (7, 5)]])
        self.check_least(RINGS, [wish(0, 4, 3)])
        self.check_least(RINGS, [wish(1, 2, 7), wish(2, 1, 7), wish(0, 3, 1)])

    def test_drawn_nets(self):
        for seed, style in enumerate(STYLES, start=301):
            for net, wishes in drawn_carried(seed, 120, style):
                self.check_least(net, wishes)

    def test_other_shares(self):
        draw = random.Random(305)
        for seed, style in enumerate(STYLES, start=306):
            for net, wishes in drawn_carried(seed, 60, style):
                best, heights = least(net, wishes)
                times = dear_times(net, best)
                for other in [drawn_other(draw, net, wishes), drawn_other(draw, net, wishes)]:
                    more = sum_by(net, other) - sum_by(net, best)
                    apart = squares(net, loads_of(best), loads_of(other))
                    self.assertEqual(more, apart + lying_over(net, other, times, heights))
                    self.assertGreaterEqual(more, 0)

    def test_not_more_than_at_rest(self):
        for seed, style in enumerate(STYLES, start=311):
            for net, wishes in drawn_carried(seed, 60, style):
                rest = resting_share(net, wishes)[0]
                self.assertLessEqual(sum_by(net, least(net, wishes)[0]), sum_by(net, rest))

    def test_at_rest_where_nothing_grows(self):
        net = made_net(3, [road(0, 1, STAYS), road(1, 2, STAYS), (0, 2, (3, 1), NOUGHT, False), road(0, 1, FREE)])
        self.check_told(net, [wish(0, 2, 6)], [whole(0, 6, 0, 6)], [whole(0, 0, 1)])

    def test_dear_times_are_the_same_in_any_order(self):
        for net, wishes in drawn_carried(315, 80, few) + drawn_carried(316, 80, small):
            share, heights = least(net, wishes)
            other, turned = least(net, wishes[::-1])
            self.assertEqual(dear_times(net, other), dear_times(net, share))
            self.assertEqual(turned, heights[::-1])

    def test_soon(self):
        pairs = [pair for style in STYLES for pair in drawn_carried(317, 15, style, fewest_ways=8)]
        within(20, lambda: [(toll_list(*pair), four_thirds(*pair)) for pair in pairs])


class TollTest(unittest.TestCase):
    """[16]: tolls, and nets with them."""

    def check_tolls(self, net, wishes, tolls):
        self.assertEqual(toll_list(net, wishes), tolls)

    def test_by_hand(self):
        self.check_tolls(BESIDE, [wish(0, 1, 1)], [(1, 2), NOUGHT])
        self.check_tolls(BESIDE, [wish(0, 1, Fraction(1, 4))], [(1, 4), NOUGHT])
        self.check_tolls(ACROSS, [wish(0, 3, 1)], [(1, 2), NOUGHT, NOUGHT, (1, 2), NOUGHT])
        self.check_tolls(LANE, [wish(0, 1, 3), wish(0, 1, 1, True)], whole(3, 1))
        net = made_net(2, [(0, 1, (3, 1), (2, 7), False), (1, 0, ONE, ONE, False)])
        self.check_tolls(net, [wish(0, 1, 5)], [(10, 7), NOUGHT])

    def test_slope_by_load(self):
        for seed, style in enumerate(STYLES, start=321):
            for net, wishes in drawn_carried(seed, 40, style):
                loads = loads_of(least(net, wishes)[0])
                tolls = [written(Fraction(*one[3]) * load) for one, load in zip(net[1], loads)]
                self.check_tolls(net, wishes, tolls)
                self.check_tolls(net, wishes[::-1], tolls)

    def test_a_net_with_tolls(self):
        net = made_net(3, [(0, 1, (1, 2), (3, 4), True), (1, 2, NOUGHT, NOUGHT, False), (2, 0, (5, 1), ONE, False)])
        told = tolled_net(net, [(1, 3), NOUGHT, (10 ** 60 - 1, 1)])
        self.assertEqual(told, (3, [
            (0, 1, (5, 6), (3, 4), True), (1, 2, NOUGHT, NOUGHT, False), (2, 0, (10 ** 60 + 4, 1), ONE, False),
        ]))
        self.assertEqual([type(told), type(told[1])], [tuple, list])
        self.assertEqual({type(one) for one in told[1]}, {tuple})
        self.assertEqual(tolled_net(net, [NOUGHT] * 3), net)
        self.assertEqual(tolled_net((2, []), []), (2, []))

    def test_the_least_sum_rests_with_tolls(self):
        for seed, style in enumerate(STYLES, start=331):
            for net, wishes in drawn_carried(seed, 60, style):
                best, heights = least(net, wishes)
                tolled = tolled_net(net, toll_list(net, wishes))
                self.assertEqual(roads_over(tolled, wishes, best), [])
                self.assertEqual([one[:2] + one[3:] for one in tolled[1]], [one[:2] + one[3:] for one in net[1]])
                # At rest with tolls all takes as long as it was dear without them.
                self.assertEqual(road_times(tolled, best), dear_times(net, best))
                self.assertEqual(resting_share(tolled, wishes)[1], heights)


class NoNetTest(unittest.TestCase):
    """[16]: what are no tolls is refused with NoNet and no other class."""

    def check_refused(self, net, tolls):
        with self.subTest(tolls=repr(tolls)):
            self.assertIs(refusal_of(lambda: tolled_net(net, tolls)), NoNet)

    def test_too_few_or_too_many(self):
        tolls = whole(1, 2, 0, 3, 0)
        for bad in ([], tolls[:4], tolls[1:], tolls + [NOUGHT], tolls * 2, tolls * 100, [None], [Odd()] * 6):
            self.check_refused(ACROSS, bad)
        self.check_refused((2, []), [NOUGHT])
        self.check_refused((2, []), [None])

    def test_no_fraction_from_nought_on_at_any_place(self):
        below = [(-1, 1), (-1, 2), (-(10 ** 60 - 1), 1), (-1, 10 ** 60 - 1)]
        for place in range(5):
            for thing in no_fractions() + below:
                self.check_refused(ACROSS, changed(whole(1, 2, 0, 3, 0), place, thing))

    def test_several_at_once(self):
        self.check_refused(ACROSS, [None] * 5)
        self.check_refused(ACROSS, [Odd()] * 5)
        self.check_refused(ACROSS, [(-1, 1)] + whole(1, 1, 1) + [True])

    def test_what_is_refused_stays(self):
        inner = [1, 2]
        for bad in ([], whole(1, 2), whole(1, 2, 0, 3) + [inner], whole(1, 2, 0, 3) + [(-1, 1)], whole(*range(6))):
            net, tolls = copy.deepcopy((ACROSS, bad))
            self.assertIs(refusal_of(lambda: tolled_net(net, tolls)), NoNet)
            self.assertEqual((net, tolls), (ACROSS, bad))


class FourThirdsTest(unittest.TestCase):
    """[17]: at rest all together spend at most four thirds of the least sum, told road by road."""

    def check_thirds(self, net, wishes):
        with self.subTest(net=net, wishes=wishes):
            told = thirds(net, wishes)
            self.assertIs(type(told), tuple)
            rest, best, rows, lag = told
            self.assertTrue(share_fits(net, wishes, rest))
            self.assertTrue(share_fits(net, wishes, best))
            self.assertEqual(roads_over(net, wishes, rest), [])
            self.assertEqual(roads_over(net, wishes, best, dear_times(net, best)), [])
            self.assertEqual([type(rest), type(best), type(rows)], [list] * 3)
            self.check_rows(net, loads_of(rest), loads_of(best), rows)
            times = road_times(net, rest)
            heights = [height_list(net, one, times) for one in wishes]
            self.assertEqual(lag, written(lying_over(net, best, times, heights)))
            spare = 4 * sum_by(net, best) - 3 * sum_by(net, rest)
            self.assertEqual(spare, sum(values(rows)) + 4 * Fraction(*lag))
            self.assertGreaterEqual(spare, 0)
        return told

    def check_rows(self, net, loads, best_loads, rows):
        found = []
        for (start, end, base, slope, lane), one, other in zip(net[1], loads, best_loads):
            found.append(written(Fraction(*base) * one + Fraction(*slope) * (one - 2 * other) ** 2))
        self.assertEqual(rows, found)

    def test_just_four_thirds(self):
        half = (1, 2)
        self.assertEqual(self.check_thirds(BESIDE, [wish(0, 1, 1)]), (
            [whole(1, 0)], [[half, half]], whole(0, 0), NOUGHT))
        self.assertEqual(self.check_thirds(ACROSS, [wish(0, 3, 1)]), (
            [whole(1, 0, 0, 1, 1)], [[half] * 4 + [NOUGHT]], whole(0, 0, 0, 0, 0), NOUGHT))
        for net, wishes in self.tight_nets():
            rest, best, rows, lag = self.check_thirds(net, wishes)
            self.assertGreater(sum_by(net, rest), 0)
            self.assertEqual(sum_by(net, rest), Fraction(4, 3) * sum_by(net, best))
            self.assertEqual((set(rows), lag), ({NOUGHT}, NOUGHT))

    def tight_nets(self):
        """Beside a road that grows, one that always takes as long as that with all of the amount on it."""
        draw = random.Random(341)
        found = []
        for unused in range(30):
            slope = Fraction(draw.randint(1, 9), draw.randint(1, 9))
            amount = Fraction(draw.randint(1, 9), draw.randint(1, 9))
            grows = (0, 1, NOUGHT, written(slope), False)
            stays = (0, 1, written(slope * amount), NOUGHT, draw.random() < 0.3)
            net = made_net(2, draw.sample([grows, stays, stays], 3))
            found.append((net, [wish(0, 1, amount, True)]))
            found.append((net, [wish(0, 1, amount / 2, True)] * 2))
        return found

    def test_rows_and_lag_by_hand(self):
        net = made_net(2, [road(0, 1, GROWS), (0, 1, (2, 1), NOUGHT, False)])
        self.assertEqual(self.check_thirds(net, [wish(0, 1, Fraction(3, 2))]), (
            [[(3, 2), NOUGHT]], [[ONE, (1, 2)]], [(1, 4), NOUGHT], (1, 4)))
        net = made_net(2, [(0, 1, (3, 1), (2, 1), False)])
        self.assertEqual(self.check_thirds(net, [wish(0, 1, 5)]), ([[(5, 1)]], [[(5, 1)]], [(65, 1)], NOUGHT))

    def test_places_without_heights(self):
        net = made_net(5, BESIDE[1] + [road(2, 1, STAYS), road(3, 4, GROWS), road(4, 3, FREE)])
        self.check_thirds(net, [wish(0, 1, 2)])
        self.check_thirds(net, [wish(0, 1, 2), wish(2, 1, 1), wish(3, 4, 1)])

    def test_lanes_and_rings(self):
        self.check_thirds(LANE, [wish(0, 1, 3), wish(0, 1, 1, True)])
        self.check_thirds(RINGS, [wish(0, 4, 3), wish(1, 3, 1)])
        self.check_thirds(STEPS, [wish(0, 2, 3)])

    def test_drawn_nets(self):
        for seed, style in enumerate(STYLES, start=342):
            for net, wishes in drawn_carried(seed, 100, style):
                self.check_thirds(net, wishes)

    def test_lags(self):
        """Roads that nobody takes at rest, but some with the least sum."""
        draw = random.Random(346)
        for unused in range(40):
            # From 0 a growing road is enough till it takes as long as the slow one; for the least sum, half of that.
            slow = Fraction(draw.randint(2, 9), draw.randint(1, 3))
            amount = slow * Fraction(draw.randint(6, 9), 10)
            net = made_net(3, [road(0, 1, GROWS), (0, 1, written(slow), NOUGHT, False), road(1, 2, STAYS)])
            wishes = [wish(0, end, amount / 2) for end in draw.choice(((1, 1), (1, 2), (2, 2)))]
            lag = self.check_thirds(net, wishes)[3]
            self.assertEqual(lag, written((amount - slow / 2) * (slow - amount)))


class BelongingTest(unittest.TestCase):
    """[2]: what is handed over stays as it was, and what is given belongs to the caller."""

    def asked(self, net, wishes):
        tolls = toll_list(net, wishes)
        return [least_share(net, wishes), tolls, tolled_net(net, tolls), four_thirds(net, wishes)]

    def test_kinds(self):
        for net, wishes in drawn_carried(351, 40, small):
            best, tolls, tolled, (rest, other, rows, lag) = self.asked(net, wishes)
            for row in best[0] + [tolls] + rest + other + [rows, [lag]]:
                self.assertIs(type(row), list)
                self.assertTrue(all(is_fraction(thing) for thing in row))
            self.assertEqual([len(row) for row in best[1]], [net[0]] * len(wishes))
            self.assertEqual([len(tolls), len(rows)], [len(net[1])] * 2)

    def test_what_is_handed_over_stays(self):
        for net, wishes in drawn_carried(352, 40, few):
            kept = copy.deepcopy((net, wishes))
            self.asked(net, wishes)
            self.assertEqual((net, wishes), kept)
        tolls = whole(1, 2, 0, 3, 0)
        tolled_net(ACROSS, tolls)
        self.assertEqual(tolls, whole(1, 2, 0, 3, 0))

    def test_the_same_question_twice(self):
        for net, wishes in drawn_carried(353, 40, noughts) + drawn_carried(354, 40, small):
            first = self.asked(net, wishes)
            self.asked(ACROSS, [wish(0, 3, 1)])
            self.assertEqual(self.asked(*copy.deepcopy((net, wishes))), first)

    def test_lists_told_are_not_shared(self):
        wishes = [wish(0, 4, 1)] * 3
        net = copy.deepcopy(RINGS)
        first = self.asked(net, wishes)
        kept = copy.deepcopy(first)
        second = self.asked(net, wishes)
        rows = lists_in(first)
        self.assertEqual(len({id(row) for row in rows}), len(rows))
        for row in rows:
            row.append(None)
            row[0] = None
        self.assertEqual(net, RINGS)
        self.assertEqual(second, kept)
        self.assertEqual(self.asked(net, wishes), kept)

    def test_changing_what_was_handed_over_changes_nothing_told_before(self):
        net, wishes, tolls = copy.deepcopy((ACROSS, [wish(0, 3, 1)], whole(1, 2, 3, 4, 5)))
        told = self.asked(net, wishes) + [tolled_net(net, tolls)]
        kept = copy.deepcopy(told)
        net[1].pop()
        wishes.pop()
        tolls[0] = None
        self.assertEqual(told, kept)


if __name__ == "__main__":
    unittest.main()
