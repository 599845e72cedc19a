import copy
import random
import unittest
from fractions import Fraction

from carried import drawn_carried, drawn_roads, few, great, noughts, small
from crowdroads.errors import NoNet, NoNumber, NoSuch, NoWay, TooMany
from crowdroads.flows import road_times, sum_of_times
from crowdroads.fractions import is_fraction
from crowdroads.nets import made_net
from crowdroads.rest import resting_share
from crowdroads.wishes import made_wishes
from crowdroads.works import closed_net, opened_net, times_compared, widened_net
from drawn import drawn_net, plain_heights, written
from handmade import ACROSS, FREE, GROWS, LANE, NOUGHT, ONE, STAYS, road, wish
from limits import within
from samples import Odd, changed, error_of, lists_in, no_fractions, no_truths, no_wholes, refusal_of, whole

STYLES = (noughts, few, small, great)
GREAT = 10 ** 60 - 1
ROAD = (0, 1, (1, 2), (3, 1), False)
# The two ways of ACROSS, without the road between them.
APART = (4, ACROSS[1][:4])


def drawn_nets(seed, count, fewest=0, most=12):
    draw = random.Random(seed)
    return [drawn_net(draw, count=draw.randint(fewest, most)) for unused in range(count)]


class NetTest(unittest.TestCase):
    """[22]: roads opened, closed and widened."""

    def check_net(self, net, many, roads):
        self.assertEqual(net, (many, roads))
        self.assertEqual([type(net), type(net[1])], [tuple, list])
        self.assertEqual({type(one) for one in net[1]} | {tuple}, {tuple})
        self.assertEqual(made_net(*net), net)

    def test_opened(self):
        self.check_net(opened_net((2, []), ROAD), 2, [ROAD])
        self.check_net(opened_net(APART, road(1, 2, FREE)), 4, ACROSS[1])
        self.check_net(opened_net(LANE, LANE[1][0]), 2, LANE[1] + LANE[1][:1])
        back = (1, 0, (GREAT, 1), (1, GREAT), True)
        self.check_net(opened_net(LANE, back), 2, LANE[1] + [back])

    def test_opened_up_to_twelve(self):
        net = (6, [])
        roads = [(k % 5, 5, (k, 1), (1, k + 1), k % 2 == 0) for k in range(12)]
        for count, one in enumerate(roads, start=1):
            net = opened_net(net, one)
            self.check_net(net, 6, roads[:count])
        self.assertIs(refusal_of(lambda: opened_net(net, roads[0])), NoNet)

    def test_closed(self):
        roads = [(0, 1, (k, 1), ONE, False) for k in range(5)]
        for number in range(5):
            self.check_net(closed_net((3, roads), number), 3, [one for one in roads if one[2] != (number, 1)])
        self.check_net(closed_net((2, [ROAD]), 0), 2, [])
        self.check_net(closed_net((2, [ROAD] * 12), 11), 2, [ROAD] * 11)

    def test_widened(self):
        net = (3, [(0, 1, (1, 2), (3, 4), True), (1, 2, NOUGHT, NOUGHT, False), ROAD])
        self.check_net(widened_net(net, 0, (3, 1)), 3, [(0, 1, (1, 2), (1, 4), True)] + net[1][1:])
        self.check_net(widened_net(net, 0, (1, 3)), 3, [(0, 1, (1, 2), (9, 4), True)] + net[1][1:])
        self.check_net(widened_net(net, 2, (6, 5)), 3, net[1][:2] + [(0, 1, (1, 2), (5, 2), False)])
        self.check_net(widened_net(net, 2, (GREAT, 1)), 3, net[1][:2] + [(0, 1, (1, 2), (1, GREAT // 3), False)])
        for by in (ONE, (7, 3), (1, GREAT), (GREAT, 1)):
            self.check_net(widened_net(net, 1, by), 3, net[1])
        for number in range(3):
            self.check_net(widened_net(net, number, ONE), 3, net[1])

    def test_opened_and_closed_again(self):
        draw = random.Random(471)
        for net in drawn_nets(472, 60, most=11):
            one = drawn_net(draw, many=net[0], count=1)[1][0]
            opened = opened_net(net, one)
            self.check_net(opened, net[0], net[1] + [one])
            self.check_net(closed_net(opened, len(net[1])), *net)

    def test_closed_road_by_road(self):
        for net in drawn_nets(473, 60, fewest=1):
            for number in range(len(net[1])):
                self.check_net(closed_net(net, number), net[0], net[1][:number] + net[1][number + 1:])

    def test_widened_and_back(self):
        draw = random.Random(474)
        for net in drawn_nets(475, 60, fewest=1):
            number = draw.randrange(len(net[1]))
            by = Fraction(draw.randint(1, 30), draw.randint(1, 30))
            slope = written(Fraction(*net[1][number][3]) / by)
            widened = widened_net(net, number, written(by))
            self.check_net(widened, net[0], changed(net[1], number, changed(net[1][number], 3, slope)))
            self.check_net(widened_net(widened, number, written(1 / by)), *net)

    def test_somewhat_beyond_the_bounds(self):
        net = (7, [road(6, 0, STAYS)])
        self.assertEqual(opened_net(net, ROAD), (7, net[1] + [ROAD]))
        self.assertEqual(closed_net((2, [ROAD] * 13), 12), (2, [ROAD] * 12))
        self.assertEqual(widened_net((2, [ROAD] * 13), 12, (3, 1)), (2, [ROAD] * 12 + [changed(ROAD, 3, ONE)]))


class NetRefusedTest(unittest.TestCase):
    """[22]: what is refused of roads opened, closed and widened, and by which class."""

    def check_opened(self, net, one):
        with self.subTest(road=repr(one)):
            self.assertIs(refusal_of(lambda: opened_net(net, one)), NoNet)

    def check_widened(self, number, by, wanted):
        with self.subTest(number=repr(number), by=repr(by)):
            self.assertIs(refusal_of(lambda: widened_net(ACROSS, number, by)), wanted)

    def test_twelve_roads_already(self):
        for many in (12, 13, 100):
            for one in (ROAD, (), (Odd(),) * 5):
                self.check_opened((2, [ROAD] * many), one)
        self.assertEqual(opened_net((2, [ROAD] * 11), ROAD), (2, [ROAD] * 12))

    def test_not_five_things(self):
        for bad in ((), (0,), ROAD[:4], ROAD[1:], ROAD + (True,), ROAD + ROAD, ROAD * 100, (Odd(),) * 4):
            for net in ((2, []), LANE, ACROSS):
                self.check_opened(net, bad)

    def test_places_that_are_none(self):
        for many in (2, 4, 6):
            for thing in no_wholes() + [-1, -many, many, many + 1, GREAT, -GREAT]:
                self.check_opened((many, [ROAD]), changed(ROAD, 0, thing))
                self.check_opened((many, [ROAD]), changed((1, 0) + ROAD[2:], 1, thing))
            for place in range(many):
                self.check_opened((many, []), (place, place) + ROAD[2:])

    def test_bases_slopes_and_lanes_that_are_none(self):
        for thing in no_fractions() + [(-1, 1), (-1, 2), (-GREAT, 1), (-1, GREAT)]:
            self.check_opened(ACROSS, changed(ROAD, 2, thing))
            self.check_opened(ACROSS, changed(ROAD, 3, thing))
        for thing in no_truths():
            self.check_opened(ACROSS, changed(ROAD, 4, thing))

    def test_several_at_once(self):
        self.check_opened(ACROSS, (None,) * 5)
        self.check_opened(ACROSS, (Odd(),) * 5)

    def test_numbers_that_are_none(self):
        for thing in no_wholes() + [-1, -5, 5, 6, 12, GREAT, -GREAT]:
            with self.subTest(number=repr(thing)):
                self.assertIs(refusal_of(lambda: closed_net(ACROSS, thing)), NoSuch)
                self.assertIs(refusal_of(lambda: closed_net((2, []), thing)), NoSuch)
            self.check_widened(thing, ONE, NoSuch)
        self.assertIs(refusal_of(lambda: closed_net((2, []), 0)), NoSuch)
        self.assertIs(refusal_of(lambda: widened_net((2, []), 0, ONE)), NoSuch)

    def test_widened_by_no_fraction_above_nought(self):
        for thing in no_fractions() + [NOUGHT, (-1, 1), (-1, 2), (-GREAT, 1), (-1, GREAT)]:
            for number in (0, 4):
                self.check_widened(number, thing, NoNumber)

    def test_no_such_goes_ahead_of_no_number(self):
        for number in (-1, 5, True, None, Odd()):
            for by in (NOUGHT, (-1, 1), (2, 2), None, True, 0, Odd()):
                self.check_widened(number, by, NoSuch)

    def test_put_right(self):
        self.check_opened(ACROSS, changed(ROAD, 4, 0))
        self.assertEqual(opened_net(ACROSS, ROAD)[1][5], ROAD)
        self.check_widened(5, (2, 1), NoSuch)
        self.check_widened(4, (2, 2), NoNumber)
        self.assertEqual(widened_net(ACROSS, 4, (2, 1)), ACROSS)
        self.assertEqual(closed_net(ACROSS, 4), APART)


class ComparedTest(unittest.TestCase):
    """[22]: how long each wish takes at rest, in one net and in another."""

    def check_compared(self, net, other, wishes, told=None):
        with self.subTest(net=net, other=other, wishes=wishes):
            compared = within(10, lambda: times_compared(net, other, wishes))
            self.assertIs(type(compared), list)
            self.assertEqual({type(pair) for pair in compared}, {tuple})
            self.assertEqual(compared, list(zip(self.ends(net, wishes), self.ends(other, wishes))))
            self.assertTrue(all(is_fraction(time) for pair in compared for time in pair))
            if told is not None:
                self.assertEqual(compared, told)
        return compared

    def ends(self, net, wishes):
        """By plain heights, by the times of a share that rests."""
        times = road_times(net, resting_share(net, wishes)[0])
        return [plain_heights(net, one, times)[one[1]] for one in wishes]

    def test_a_road_across(self):
        self.check_compared(APART, ACROSS, [wish(0, 3, 1)], [((3, 2), (2, 1))])
        self.check_compared(ACROSS, APART, [wish(0, 3, 1)], [((2, 1), (3, 2))])
        self.check_compared(APART, ACROSS, [wish(0, 3, 2)], [((2, 1), (2, 1))])
        self.check_compared(APART, ACROSS, [wish(0, 3, 10)], [((6, 1), (6, 1))])
        self.check_compared(ACROSS, ACROSS, [wish(0, 3, 1)], [((2, 1), (2, 1))])

    def test_several_wishes_in_their_order(self):
        net = made_net(3, [road(0, 1, GROWS), road(1, 2, STAYS)])
        other = made_net(3, [road(1, 2, GROWS), road(0, 1, GROWS), road(0, 1, GROWS)])
        wishes = [wish(0, 1, 4), wish(1, 2, 3)]
        self.check_compared(net, other, wishes, [((4, 1), (2, 1)), ((1, 1), (3, 1))])
        self.check_compared(net, other, wishes[::-1], [((1, 1), (3, 1)), ((4, 1), (2, 1))])

    def test_lanes(self):
        closed = closed_net(LANE, 1)
        self.check_compared(LANE, closed, [wish(0, 1, 1), wish(0, 1, 1, True)], [((1, 1), (2, 1))] * 2)
        free = (2, [one[:4] + (False,) for one in LANE[1]])
        self.check_compared(LANE, free, [wish(0, 1, 3), wish(0, 1, 1, True)], [((3, 1), (2, 1)), ((1, 1), (2, 1))])

    def test_drawn_nets(self):
        draw = random.Random(481)
        count = 0
        for seed, style in enumerate(STYLES, start=482):
            for net, wishes in drawn_carried(seed, 40, style):
                other = (net[0], drawn_roads(draw, net[0], draw.randint(6, 12), style, 0.1))
                if refusal_of(lambda: made_wishes(other, wishes)) is None:
                    self.check_compared(net, other, wishes)
                    count += 1
        self.assertGreater(count, 40)

    def test_drawn_works(self):
        draw = random.Random(486)
        for seed, style in enumerate(STYLES, start=487):
            for net, wishes in drawn_carried(seed, 30, style):
                number = draw.randrange(len(net[1]))
                self.check_compared(net, widened_net(net, number, (3, 2)), wishes)
                closed = closed_net(net, number)
                if refusal_of(lambda: made_wishes(closed, wishes)) is None:
                    self.check_compared(closed, net, wishes)

    def test_ten_ways_in_the_other_net(self):
        fan = made_net(2, [road(0, 1, GROWS)] * 10)
        self.check_compared((2, fan[1][:1]), fan, [wish(0, 1, 1)], [((1, 1), (1, 10))])


class ComparedRefusedTest(unittest.TestCase):
    """[22]: NoWay of the first wish that has no way in the other net, then TooMany there."""

    def check_no_way(self, net, other, wishes, number, reached):
        error = error_of(lambda: times_compared(net, other, made_wishes(net, wishes)))
        self.assertIs(type(error), NoWay)
        self.assertEqual((error.wish, error.reached), (number, reached))

    def test_no_way(self):
        self.check_no_way(ACROSS, (4, []), [wish(1, 3, 1)], 0, [1])
        self.check_no_way(ACROSS, (4, ACROSS[1][:1] + ACROSS[1][4:]), [wish(0, 3, 1)], 0, [0, 1, 2])
        self.check_no_way(ACROSS, APART, [wish(0, 3, 1), wish(1, 2, 1), wish(0, 3, 1)], 1, [1, 3])
        self.check_no_way(ACROSS, APART, [wish(0, 3, 1), wish(0, 3, 1), wish(1, 2, 1)], 2, [1, 3])
        self.check_no_way(ACROSS, (4, []), [wish(0, 3, 1), wish(1, 2, 1)], 0, [0])

    def test_lanes(self):
        lanes = (2, [road(0, 1, GROWS, True)])
        self.check_no_way(LANE, lanes, [wish(0, 1, 1, True), wish(0, 1, 1)], 1, [0])
        self.assertEqual(times_compared(LANE, lanes, [wish(0, 1, 2, True)]), [((1, 1), (2, 1))])

    def test_too_many(self):
        one = made_net(2, [road(0, 1, GROWS)])
        for many in (11, 12):
            fan = made_net(2, [road(0, 1, GROWS)] * many)
            self.assertIs(refusal_of(lambda: times_compared(one, fan, [wish(0, 1, 1)])), TooMany)
        for many, wanted in ((3, None), (4, TooMany)):
            fan = made_net(2, [road(0, 1, GROWS)] * many)
            self.assertIs(refusal_of(lambda: times_compared(one, fan, [wish(0, 1, 1)] * 3)), wanted)

    def test_no_way_goes_ahead_of_too_many(self):
        net = made_net(3, [road(0, 1, GROWS), road(1, 2, GROWS), road(2, 1, STAYS)])
        other = made_net(3, [road(0, 1, GROWS)] * 12)
        self.check_no_way(net, other, [wish(0, 1, 1), wish(1, 2, 1)], 1, [1])
        self.check_no_way(net, other, [wish(0, 1, 1), wish(0, 2, 1), wish(2, 1, 1)], 1, [0, 1])
        self.check_no_way(net, other, [wish(2, 1, 1), wish(0, 1, 1)], 0, [2])


class SlowerTest(unittest.TestCase):
    """[23]: a road opened or widened may make all slower, but three times the sum behind it is at most four times."""

    def check_slower(self, net, other, wishes):
        for before, after in times_compared(net, other, wishes):
            self.assertGreater(Fraction(*after), Fraction(*before))
        self.check_thirds(net, other, wishes)

    def check_thirds(self, net, other, wishes):
        sums = []
        for one in (net, other):
            sums.append(Fraction(*sum_of_times(one, resting_share(one, wishes)[0])))
        self.assertLessEqual(3 * sums[1], 4 * sums[0])
        pairs = times_compared(net, other, wishes)
        for place in (0, 1):
            # At rest all of a wish takes as long as its end is high.
            told = [Fraction(*pair[place]) * Fraction(*one[2]) for pair, one in zip(pairs, wishes)]
            self.assertEqual(sum(told), sums[place])
        return sums

    def test_a_road_opened_makes_all_slower(self):
        opened = opened_net(APART, road(1, 2, FREE))
        self.check_slower(APART, opened, [wish(0, 3, 1)])
        self.check_slower(APART, opened, [wish(0, 3, Fraction(1, 2)), wish(0, 3, Fraction(1, 2), True)])
        self.check_slower(APART, opened, [wish(0, 3, Fraction(1, 3))] * 3)
        sums = self.check_thirds(APART, opened, [wish(0, 3, 1)])
        self.assertEqual(sums, [Fraction(3, 2), 2])

    def test_a_road_widened_makes_all_slower(self):
        net = opened_net(APART, road(1, 2, GROWS))
        self.assertEqual(times_compared(APART, net, [wish(0, 3, 1)]), [((3, 2), (5, 3))])
        self.assertEqual(times_compared(net, widened_net(net, 4, (2, 1)), [wish(0, 3, 1)]), [((5, 3), (7, 4))])
        self.check_slower(net, widened_net(net, 4, (2, 1)), [wish(0, 3, 1)])
        self.check_slower(net, widened_net(net, 4, (10 ** 18, 1)), [wish(0, 3, Fraction(1, 2))] * 2)

    def test_roads_opened(self):
        draw = random.Random(491)
        count = 0
        for seed, style in enumerate(STYLES, start=492):
            for net, wishes in drawn_carried(seed, 60, style):
                if len(net[1]) < 12:
                    opened = opened_net(net, drawn_roads(draw, net[0], 1, style, 0.2)[0])
                    if refusal_of(lambda: made_wishes(opened, wishes)) is None:
                        self.check_thirds(net, opened, wishes)
                        count += 1
        self.assertGreater(count, 100)

    def test_roads_widened(self):
        draw = random.Random(496)
        for seed, style in enumerate(STYLES, start=497):
            for net, wishes in drawn_carried(seed, 40, style):
                by = 1 + Fraction(draw.choice((0, 1, 5, 10 ** 6)), draw.randint(1, 5))
                self.check_thirds(net, widened_net(net, draw.randrange(len(net[1])), written(by)), wishes)


class BelongingTest(unittest.TestCase):
    """[2]: what is handed over stays as it was, and what is given belongs to the caller."""

    def asked(self, net, wishes):
        nets = [opened_net(net, road(1, 2, FREE)), closed_net(net, 2), widened_net(net, 0, (2, 1))]
        return nets + [times_compared(net, other, wishes) for other in nets]

    def test_what_is_handed_over_stays(self):
        net, wishes = copy.deepcopy((ACROSS, [wish(0, 3, 1)]))
        other = copy.deepcopy(APART)
        self.asked(net, wishes)
        times_compared(net, other, wishes)
        self.assertEqual((net, other, wishes), (ACROSS, APART, [wish(0, 3, 1)]))

    def test_what_is_refused_stays(self):
        inner = [1, 2]
        net = copy.deepcopy(ACROSS)
        for deed in (
            lambda: opened_net(net, changed(ROAD, 3, inner)), lambda: closed_net(net, inner),
            lambda: widened_net(net, inner, ONE), lambda: widened_net(net, 0, inner),
        ):
            self.assertIsNotNone(refusal_of(deed))
            self.assertEqual((net, inner), (ACROSS, [1, 2]))
        other, wishes = copy.deepcopy((APART, [wish(1, 2, 1)]))
        self.assertIs(refusal_of(lambda: times_compared(net, other, wishes)), NoWay)
        self.assertEqual((net, other, wishes), (ACROSS, APART, [wish(1, 2, 1)]))
        full = (2, [ROAD] * 12)
        self.assertIs(refusal_of(lambda: opened_net(full, ROAD)), NoNet)
        self.assertEqual(full, (2, [ROAD] * 12))

    def test_the_same_question_twice(self):
        for net, wishes in [(ACROSS, [wish(0, 3, 1)]), (ACROSS, [wish(0, 3, 2), wish(0, 3, 1, True)])]:
            first = self.asked(net, wishes)
            self.asked(ACROSS, [wish(1, 3, 5)])
            self.assertEqual(self.asked(*copy.deepcopy((net, wishes))), first)

    def test_changing_what_was_told_changes_nothing_else(self):
        net, wishes = copy.deepcopy((ACROSS, [wish(0, 3, 1)]))
        first = self.asked(net, wishes)
        kept = copy.deepcopy(first)
        second = self.asked(net, wishes)
        for row in lists_in(first):
            row.append(None)
            row[0] = None
        self.assertEqual((net, wishes), (ACROSS, [wish(0, 3, 1)]))
        self.assertEqual(second, kept)
        self.assertEqual(self.asked(net, wishes), kept)

    def test_changing_what_was_handed_over_changes_nothing_told_before(self):
        net, wishes = copy.deepcopy((ACROSS, [wish(0, 3, 1)]))
        told = self.asked(net, wishes)
        kept = copy.deepcopy(told)
        net[1][0] = None
        net[1].pop()
        wishes.clear()
        self.assertEqual(told, kept)

    def test_nets_are_not_shared_where_nothing_is_changed(self):
        net = copy.deepcopy(ACROSS)
        for told in (widened_net(net, 4, ONE), widened_net(net, 4, (5, 1))):
            told[1].clear()
        self.assertEqual(net, ACROSS)
        self.assertEqual(times_compared(net, APART, [wish(0, 3, 1)]), [(whole(2)[0], (3, 2))])


if __name__ == "__main__":
    unittest.main()
