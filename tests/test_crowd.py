import copy
import random
import unittest
from itertools import product

from carried import few, great, noughts, small
from crowdroads.crowd import Crowd
from crowdroads.errors import NoStep, NoSuch, NoWay, NoWish, TooMany
from crowdroads.fractions import is_fraction
from crowdroads.nets import made_net
from crowds import Plain, all_told_by, drawn_crowds, own_ways, sent
from drawn import written
from handmade import ACROSS, FREE, GROWS, LANE, NOUGHT, ONE, RINGS, STAYS, road
from samples import Odd, error_of, lists_in, no_fractions, no_truths, no_wholes, refusal_of, whole

STYLES = (noughts, few, small, great)
BESIDE = made_net(2, [road(0, 1, GROWS), road(0, 1, STAYS)])
ONE_ROAD = made_net(2, [(0, 1, (1, 1), (1, 2), False)])
GOER = (0, 1, False)
BUS = (0, 1, True)
EIGHTEEN = 10 ** 18 - 1


def fan(count):
    return made_net(2, [road(0, 1, GROWS)] * count)


class CrowdTest(unittest.TestCase):
    """What each crowd here has to keep to."""

    def check_told(self, crowd, **wanted):
        told = all_told_by(crowd)
        self.assertEqual({name: told[name] for name in wanted}, wanted)

    def check_plain(self, crowd, plain, chosen):
        self.assertEqual(all_told_by(crowd), plain.all_told(chosen))


class ByHandTest(CrowdTest):
    """[18], [19]: what is told of a crowd."""

    def test_one_traveller_with_one_way(self):
        crowd = Crowd(ONE_ROAD, [GOER])
        self.check_told(
            crowd, ways=[[[0]]], taken=[0], times=[(3, 2)], gains=[[NOUGHT]], told=(3, 2), whole=(3, 2), rests=True)

    def test_one_way_alone(self):
        net = made_net(3, [(1, 2, (1, 3), NOUGHT, False), (0, 1, NOUGHT, (1, 2), False), road(2, 0, FREE)])
        crowd = Crowd(net, [(0, 2, False), (0, 2, False), (0, 1, False)])
        self.check_told(crowd, ways=[[[1, 0]], [[1, 0]], [[1]]], taken=[0, 0, 0], gains=[[NOUGHT]] * 3, rests=True)
        self.check_told(crowd, times=[(11, 6), (11, 6), (3, 2)], told=(11, 3), whole=(31, 6))

    def test_three_side_by_side(self):
        crowd = Crowd(BESIDE, [GOER] * 3)
        self.check_told(
            crowd, ways=[[[0], [1]]] * 3, taken=[0, 0, 0], times=whole(3, 3, 3), gains=[whole(0, 2)] * 3,
            told=(6, 1), whole=(9, 1), rests=False)
        self.assertIsNone(crowd.go(1, 1))
        self.check_told(
            crowd, taken=[0, 1, 0], times=whole(2, 1, 2), gains=[whole(0, 1), whole(-2, 0), whole(0, 1)],
            told=(4, 1), whole=(5, 1), rests=False)
        crowd.go(2, 1)
        self.check_told(
            crowd, taken=[0, 1, 1], times=whole(1, 1, 1), gains=[whole(0, 0), whole(-1, 0), whole(-1, 0)],
            told=(3, 1), whole=(3, 1), rests=True)

    def test_a_road_across(self):
        crowd = Crowd(ACROSS, [(0, 3, False)] * 2)
        self.check_told(
            crowd, ways=[[[0, 1], [0, 4, 3], [2, 3]]] * 2, times=whole(3, 3), gains=[whole(0, 0, 1)] * 2,
            told=(5, 1), whole=(6, 1), rests=False)
        crowd.go(0, 1)
        crowd.go(1, 1)
        self.check_told(crowd, taken=[1, 1], times=whole(4, 4), gains=[whole(1, 0, 1)] * 2, told=(6, 1), whole=(8, 1))
        crowd.go(0, 2)
        self.check_told(crowd, taken=[2, 1], times=whole(3, 3), gains=[whole(0, -1, 0), whole(1, 0, 0)], rests=False)

    def test_unlike_travellers(self):
        crowd = Crowd(ACROSS, [(1, 3, True), (0, 2, False), (0, 3, False)])
        self.check_told(
            crowd, ways=[[[1], [4, 3]], [[0, 4], [2]], [[0, 1], [0, 4, 3], [2, 3]]], taken=[0, 0, 0],
            times=whole(1, 2, 3), gains=[whole(0, 0), whole(0, 1), whole(0, 0, 1)], told=(5, 1), whole=(6, 1))

    def test_no_steps(self):
        for steps in (None, [], [(0, 1, NOUGHT)], [(0, 4, ONE)], [(1, 1, NOUGHT)] * 12):
            crowd = Crowd(BESIDE, [GOER] * 3, steps)
            self.check_told(crowd, times=whole(3, 3, 3), gains=[whole(0, 2)] * 3, told=(6, 1), whole=(9, 1))
        self.assertEqual(all_told_by(Crowd(BESIDE, [GOER] * 3)), all_told_by(Crowd(BESIDE, [GOER] * 3, None)))

    def test_roads_that_take_no_time(self):
        crowd = Crowd(RINGS, [(1, 2, False), (2, 1, True)])
        self.check_told(
            crowd, ways=[[[1]], [[2, 0], [4]]], times=whole(0, 0), gains=[whole(0), whole(0, 0)],
            told=NOUGHT, whole=NOUGHT, rests=True)


class StepTest(CrowdTest):
    """[18]: steps, by how many travellers are on a road."""

    def check_times(self, steps, times):
        """The time of ONE_ROAD with one, two and so on up to six travellers."""
        for many in range(1, 7):
            crowd = Crowd(ONE_ROAD, [GOER] * many, steps)
            self.check_told(crowd, times=[times[many - 1]] * many)
            self.check_told(crowd, whole=written(many * Plain(ONE_ROAD, [GOER], steps).time_with(0, many)))

    def test_each_count(self):
        halves = [3, 4, 5, 6, 7, 8]
        for count in range(1, 7):
            for steps in ([(0, count, (5, 2))], [(0, count, ONE), (0, count, (3, 2))]):
                times = [(halves[k] + (5 if k + 1 >= count else 0)) for k in range(6)]
                self.check_times(steps, [(half // 2, 1) if half % 2 == 0 else (half, 2) for half in times])

    def test_several_counts_on_one_road(self):
        net = made_net(2, [road(0, 1, STAYS)])
        steps = [(0, 4, (7, 1)), (0, 2, (1, 2)), (0, 1, (5, 1)), (0, 2, (1, 3))]
        self.check_told(Crowd(net, [GOER], steps), times=whole(6), told=(6, 1), whole=(6, 1))
        self.check_told(Crowd(net, [GOER] * 3, steps), times=[(41, 6)] * 3, told=(59, 3), whole=(41, 2))
        self.check_told(Crowd(net, [GOER] * 4, steps), times=[(83, 6)] * 4, told=(67, 2), whole=(166, 3))

    def test_counts_that_nobody_comes_to(self):
        times = [(3, 2), (2, 1), (5, 2), (3, 1), (7, 2), (4, 1)]
        for count in (7, 8, EIGHTEEN, 10 ** 17, 10 ** 59):
            self.check_times([(0, count, ONE)], times)
            self.check_times([(0, count, ONE)] * 12, times)

    def test_great_and_small_times(self):
        self.check_told(Crowd(ONE_ROAD, [GOER], [(0, 1, (EIGHTEEN, 1))]), times=[(2 * EIGHTEEN + 3, 2)])
        self.check_told(Crowd(ONE_ROAD, [GOER], [(0, 1, (1, EIGHTEEN))]), times=[(3 * EIGHTEEN + 2, 2 * EIGHTEEN)])

    def test_steps_on_several_roads(self):
        crowd = Crowd(BESIDE, [GOER] * 3, [(0, 3, (10, 1)), (1, 1, (4, 1)), (1, 2, (8, 1))])
        self.check_told(
            crowd, times=whole(13, 13, 13), gains=[whole(0, 8)] * 3, told=(16, 1), whole=(39, 1), rests=False)
        crowd.go(0, 1)
        self.check_told(
            crowd, times=whole(5, 2, 2), gains=[whole(-8, 0), whole(0, -11), whole(0, -11)], told=(8, 1),
            whole=(9, 1), rests=True)

    def test_what_it_gains_counts_itself(self):
        # Alone on the second road it would come to the first step there, not to the second one.
        crowd = Crowd(BESIDE, [GOER] * 2, [(1, 1, (1, 1)), (1, 2, (50, 1)), (0, 2, (3, 1))])
        self.check_told(crowd, times=whole(5, 5), gains=[whole(0, 3)] * 2)
        crowd.go(0, 1)
        self.check_told(crowd, times=whole(2, 1), gains=[whole(-3, 0), whole(0, -51)])


class LaneTest(CrowdTest):
    """[18]: who may take lanes, and who may not."""

    def test_lanes(self):
        crowd = Crowd(LANE, [GOER, BUS, GOER, BUS])
        self.check_told(
            crowd, ways=[[[0]], [[0], [1]]] * 2, times=whole(4, 4, 4, 4),
            gains=[whole(0), whole(0, 3)] * 2, told=(10, 1), whole=(16, 1))
        crowd.go(3, 1)
        self.check_told(crowd, times=whole(3, 3, 3, 1), gains=[whole(0), whole(0, 1), whole(0), whole(-3, 0)])

    def test_a_lane_alone(self):
        net = made_net(2, [road(0, 1, STAYS, True)])
        self.check_told(Crowd(net, [BUS]), ways=[[[0]]], times=whole(1))
        self.assertIs(refusal_of(lambda: Crowd(net, [GOER])), NoWay)

    def test_lanes_count_among_the_six_where_they_may_be_taken(self):
        net = made_net(2, [road(0, 1, GROWS)] * 6 + [road(0, 1, GROWS, True)])
        self.assertEqual(len(Crowd(net, [GOER]).ways(0)), 6)
        self.assertIs(refusal_of(lambda: Crowd(net, [BUS])), TooMany)


class DrawnTest(CrowdTest):
    """[18], [19]: drawn crowds, against the sums made anew."""

    def test_at_first(self):
        for seed, style in enumerate(STYLES, start=411):
            for net, travellers, steps in drawn_crowds(seed, 60, style):
                plain = Plain(net, travellers, steps)
                self.check_plain(Crowd(net, travellers, steps), plain, [0] * len(travellers))

    def test_behind_changes(self):
        draw = random.Random(415)
        for seed, style in enumerate(STYLES, start=416):
            for net, travellers, steps in drawn_crowds(seed, 25, style, fewest_ways=8):
                plain = Plain(net, travellers, steps)
                crowd = Crowd(net, travellers, steps)
                chosen = [0] * len(travellers)
                for unused in range(4):
                    traveller = draw.randrange(len(travellers))
                    chosen[traveller] = draw.randrange(len(plain.ways[traveller]))
                    self.assertIsNone(crowd.go(traveller, chosen[traveller]))
                    self.check_plain(crowd, plain, chosen)

    def test_a_change_makes_the_told_number_less_by_what_is_gained(self):
        draw = random.Random(421)
        changes = []
        for seed, style in enumerate(STYLES, start=422):
            for net, travellers, steps in drawn_crowds(seed, 30, style, fewest_ways=5):
                plain = Plain(net, travellers, steps)
                crowd = sent(net, travellers, steps, plain.drawn_choice(draw))
                before = all_told_by(crowd)
                for traveller, ways in enumerate(plain.ways):
                    number = draw.randrange(len(ways))
                    changes.append(self.check_change(crowd, before, traveller, number))
        self.assertTrue(any(top > 0 for top, bottom in changes) and any(top < 0 for top, bottom in changes))

    def check_change(self, crowd, before, traveller, number):
        gain = before["gains"][traveller][number]
        crowd.go(traveller, number)
        after = all_told_by(crowd)
        told = [before["told"], after["told"]]
        self.assertEqual(told[0][0] * told[1][1] - told[1][0] * told[0][1],
                         gain[0] * told[0][1] * told[1][1] // gain[1])
        self.assertEqual(after["gains"][traveller][number], NOUGHT)
        top, bottom = after["gains"][traveller][before["taken"][traveller]]
        self.assertEqual((-top, bottom), gain)
        crowd.go(traveller, before["taken"][traveller])
        self.assertEqual(all_told_by(crowd), before)
        return gain

    def test_the_same_way_again_is_no_change(self):
        for net, travellers, steps in drawn_crowds(426, 30, few):
            crowd = Crowd(net, travellers, steps)
            before = all_told_by(crowd)
            crowd.go(len(travellers) - 1, 0)
            self.assertEqual(all_told_by(crowd), before)

    def test_as_many_ways_and_travellers_as_there_may_be(self):
        net = fan(6)
        crowd = Crowd(net, [GOER] * 6, [(number % 6, 2, (number, 1)) for number in range(12)])
        plain = Plain(net, [GOER] * 6, [(number % 6, 2, (number, 1)) for number in range(12)])
        for chosen in ([0] * 6, [5] * 6, [0, 1, 2, 3, 4, 5], [5, 4, 4, 0, 0, 0]):
            for traveller, number in enumerate(chosen):
                crowd.go(traveller, number)
            self.check_plain(crowd, plain, chosen)

    def test_somewhat_beyond_the_bounds(self):
        net = (7, [road(place, place + 1, GROWS) for place in range(6)] + [road(0, 6, STAYS)] * 7)
        crowd = Crowd(net, [(1, 6, False)] * 6, [(12, 1, ONE), (5, 6, ONE)])
        self.check_told(crowd, ways=[[[1, 2, 3, 4, 5]]] * 6, times=whole(*[31] * 6))


class NoWishTest(unittest.TestCase):
    """[18]: what makes no travellers is refused with NoWish and no other class."""

    def check_refused(self, travellers, steps=None):
        with self.subTest(travellers=repr(travellers)):
            self.assertIs(refusal_of(lambda: Crowd(ACROSS, travellers, steps)), NoWish)

    def check_each_place(self, traveller):
        """Also beside travellers that are right."""
        right = (0, 3, False)
        for travellers in ([traveller], [right, traveller], [traveller, right], [right] * 5 + [traveller]):
            self.check_refused(travellers)

    def test_none_or_seven(self):
        self.check_refused([])
        for many in (7, 8, 100):
            self.check_refused([(0, 3, False)] * many)
            self.check_refused([()] * many)
        for many in range(1, 7):
            self.assertEqual(Crowd(ACROSS, [(0, 3, False)] * many).taken(), [0] * many)

    def test_other_lengths(self):
        for bad in ((), (0,), (0, 3), (0, 3, ONE, False), (0, 3, False, False), (0, 3, False) * 40, (Odd(),) * 4):
            self.check_each_place(bad)

    def test_places_that_are_none(self):
        for thing in no_wholes() + [-1, 4, 5, 6, -(10 ** 59), 10 ** 59]:
            self.check_each_place((thing, 3, False))
            self.check_each_place((0, thing, False))

    def test_both_places_one(self):
        for place in range(4):
            self.check_each_place((place, place, False))
            self.check_each_place((place, place, True))

    def test_lanes_that_are_no_truths(self):
        for thing in no_truths():
            self.check_each_place((0, 3, thing))

    def test_places_by_how_many_there_are(self):
        for many in range(2, 7):
            net = made_net(many, [road(0, many - 1, STAYS)])
            self.assertEqual(Crowd(net, [(0, many - 1, False)]).ways(0), [[0]])
            self.assertIs(refusal_of(lambda: Crowd(net, [(0, many, False)])), NoWish)


class NoStepTest(unittest.TestCase):
    """[18]: what makes no steps is refused with NoStep and no other class."""

    def check_refused(self, steps):
        with self.subTest(steps=repr(steps)):
            self.assertIs(refusal_of(lambda: Crowd(ACROSS, [(0, 3, False)], steps)), NoStep)

    def check_each_place(self, step):
        right = (4, 2, (1, 2))
        for steps in ([step], [right, step], [step, right], [right] * 11 + [step]):
            self.check_refused(steps)

    def check_taken(self, steps):
        self.assertEqual(Crowd(ACROSS, [(0, 3, False)], steps).taken(), [0])

    def test_thirteen(self):
        right = (4, 2, (1, 2))
        for many in (13, 14, 100):
            self.check_refused([right] * many)
            self.check_refused([()] * many)
        for many in range(13):
            self.check_taken([right] * many)

    def test_other_lengths(self):
        for bad in ((), (0,), (0, 1), (0, 1, ONE, ONE), (0, 1, ONE, False), (0, 1, ONE) * 40, (Odd(),) * 2):
            self.check_each_place(bad)

    def test_roads_that_are_none(self):
        for thing in no_wholes() + [-1, 5, 6, 12, 10 ** 59, -(10 ** 59)]:
            self.check_each_place((thing, 1, ONE))
        for number in range(5):
            self.check_taken([(number, 1, ONE)])

    def test_counts_that_are_none(self):
        for thing in no_wholes() + [0, -1, -7, -EIGHTEEN, -(10 ** 59)]:
            self.check_each_place((0, thing, ONE))
        for count in (1, 2, 6, 7, EIGHTEEN, 10 ** 59):
            self.check_taken([(0, count, ONE)])

    def test_times_that_are_none(self):
        for thing in no_fractions() + [(-1, 1), (-1, 2), (-1, 10 ** 59), (-(10 ** 59), 1)]:
            self.check_each_place((0, 1, thing))
        for time in (NOUGHT, ONE, (1, 2), (EIGHTEEN, 1), (1, 10 ** 59)):
            self.check_taken([(0, 1, time)])

    def test_a_net_without_roads_has_no_steps(self):
        self.assertIs(refusal_of(lambda: Crowd((2, []), [GOER], [(0, 1, ONE)])), NoStep)


class NoWayTest(unittest.TestCase):
    """[18]: NoWay of the first traveller that has no way, with its number and the places reached."""

    NET = made_net(5, [
        road(0, 1, STAYS), road(1, 2, STAYS), road(2, 0, STAYS), road(2, 3, STAYS, True), road(4, 0, FREE),
    ])

    def check_refused(self, travellers, number, reached):
        error = error_of(lambda: Crowd(self.NET, travellers))
        self.assertIs(type(error), NoWay)
        self.assertEqual((error.wish, error.reached), (number, reached))
        self.assertEqual((type(error.wish), type(error.reached)), (int, list))

    def test_places_reached(self):
        self.check_refused([(0, 3, False)], 0, [0, 1, 2])
        self.check_refused([(0, 4, True)], 0, [0, 1, 2, 3])
        self.check_refused([(4, 3, False)], 0, [0, 1, 2, 4])
        self.check_refused([(3, 0, True)], 0, [3])

    def test_the_first_who_has_none(self):
        right = (0, 2, False)
        self.check_refused([right, (0, 3, False), (3, 0, True)], 1, [0, 1, 2])
        self.check_refused([right, right, (3, 0, True), (0, 3, False)], 2, [3])
        self.check_refused([right] * 5 + [(1, 4, True)], 5, [0, 1, 2, 3])

    def test_a_net_without_roads(self):
        error = error_of(lambda: Crowd((6, []), [(5, 0, True)]))
        self.assertEqual((type(error), error.wish, error.reached), (NoWay, 0, [5]))

    def test_ahead_of_too_many(self):
        net = made_net(3, [road(0, 1, STAYS)] * 7)
        for travellers in ([GOER, (0, 2, False)], [GOER, GOER, (1, 0, True), (0, 2, False)]):
            error = error_of(lambda: Crowd(net, travellers))
            self.assertIs(type(error), NoWay)
            first = [traveller for traveller in travellers if traveller != GOER][0]
            self.assertEqual((error.wish, error.reached), (travellers.index(first), [[0, 1], [1]][first[0]]))

    def test_put_right(self):
        self.check_refused([(0, 3, False), (4, 1, False)], 0, [0, 1, 2])
        self.assertEqual(Crowd(self.NET, [(0, 3, True), (4, 1, False)]).ways(0), [[0, 1, 3]])


class TooManyTest(unittest.TestCase):
    """[18]: a traveller with seven ways is refused with TooMany."""

    def test_of_one(self):
        self.assertEqual(Crowd(fan(6), [GOER]).ways(0), [[number] for number in range(6)])
        for many in range(7, 13):
            self.assertIs(refusal_of(lambda: Crowd(fan(many), [GOER])), TooMany)

    def test_of_any(self):
        net = made_net(3, [road(0, 1, STAYS)] * 7 + [road(1, 2, STAYS)])
        few_ways = (1, 2, False)
        self.assertEqual(Crowd(net, [few_ways] * 6).taken(), [0] * 6)
        for travellers in ([few_ways, GOER], [GOER, few_ways], [few_ways] * 5 + [(0, 2, True)]):
            self.assertIs(refusal_of(lambda: Crowd(net, travellers)), TooMany)

    def test_six_each_are_not_too_many_together(self):
        self.assertEqual(Crowd(fan(6), [GOER] * 6).taken(), [0] * 6)

    def test_over_several_places(self):
        net = made_net(3, [road(0, 1, STAYS)] * 3 + [road(1, 2, STAYS)] * 2)
        self.assertEqual(len(Crowd(net, [(0, 2, False)]).ways(0)), 6)
        self.assertIs(refusal_of(lambda: Crowd(made_net(3, net[1] + [road(0, 2, FREE)]), [(0, 2, False)])), TooMany)


class OrderOfRefusalsTest(unittest.TestCase):
    """[2]: of several refusals the first one in the interface's row goes."""

    # From 0 to 1 there are seven ways, from 0 to 2 one, from 1 to 0 none.
    NET = made_net(3, [road(0, 1, STAYS)] * 7 + [road(0, 2, STAYS)])
    BAD_TRAVELLERS = ([(0, 1)], [(0, 0, False)], [(0, True, False)], [(0, 3, True)], [(0, 1, 1)], [GOER] * 7)
    BAD_STEPS = ([()], [(8, 1, ONE)], [(0, 0, ONE)], [(0, 1, (2, 2))], [(0, 1, ONE)] * 13)

    def test_each_of_several_at_once(self):
        rows = product([[]] + list(self.BAD_TRAVELLERS), [[]] + list(self.BAD_STEPS), (0, 1), (0, 1))
        for none, steps, lost, many in rows:
            due = [
                name for name, bad in ((NoWish, none), (NoStep, steps), (NoWay, lost), (TooMany, many)) if bad
            ]
            parts = [(1, 0, False)] * lost + [GOER] * many
            for travellers in ([(0, 2, False)] + none + parts, parts + none + [(0, 2, False)]):
                with self.subTest(travellers=travellers, steps=steps):
                    told = refusal_of(lambda: Crowd(self.NET, travellers, steps))
                    self.assertIs(told, due[0] if due else None)


class NoSuchTest(unittest.TestCase):
    """[19]: NoSuch of each method that takes a number, and nothing is changed by that."""

    def setUp(self):
        self.crowd = sent(ACROSS, [(0, 3, False), (1, 3, False), (0, 1, False)], [(3, 2, ONE)], [2, 1, 0])
        self.before = all_told_by(self.crowd)

    def check_refused(self, *deeds):
        for deed in deeds:
            self.assertIs(refusal_of(lambda: deed(self.crowd)), NoSuch)
        self.assertEqual(all_told_by(self.crowd), self.before)

    def test_travellers(self):
        for thing in no_wholes() + [-1, -2, -3, 3, 4, 10 ** 59, -(10 ** 59)]:
            with self.subTest(traveller=repr(thing)):
                self.check_refused(
                    lambda crowd: crowd.ways(thing), lambda crowd: crowd.time_of(thing),
                    lambda crowd: crowd.gains(thing), lambda crowd: crowd.go(thing, 0))

    def test_ways(self):
        for traveller, many in enumerate((3, 2, 1)):
            for thing in no_wholes() + [-1, -many, many, many + 1, 10 ** 59, -(10 ** 59)]:
                with self.subTest(traveller=traveller, number=repr(thing)):
                    self.check_refused(lambda crowd: crowd.go(traveller, thing))

    def test_both(self):
        for thing in (-1, 3, True, None, "0", Odd()):
            self.check_refused(lambda crowd: crowd.go(thing, thing), lambda crowd: crowd.go(3, thing))

    def test_put_right(self):
        self.check_refused(lambda crowd: crowd.go(1, 2), lambda crowd: crowd.go(True, 0))
        self.crowd.go(1, 0)
        self.assertEqual(self.crowd.taken(), [2, 0, 0])
        for traveller in range(3):
            for number in range(len(self.crowd.ways(traveller))):
                self.crowd.go(traveller, number)
                self.assertEqual(self.crowd.taken()[traveller], number)


class BelongingTest(CrowdTest):
    """[2]: what is handed over stays as it was, what is given belongs to the caller, like deeds have like answers."""

    def crowds(self):
        return drawn_crowds(431, 25, small, fewest_ways=6)

    def test_kinds(self):
        for net, travellers, steps in self.crowds():
            told = all_told_by(Crowd(net, travellers, steps))
            self.assertEqual({type(row) for row in told["ways"] + told["gains"] + [told["taken"]]}, {list})
            self.assertEqual({type(way) for ways in told["ways"] for way in ways}, {list})
            self.assertEqual({type(number) for number in told["taken"]}, {int})
            fractions = told["times"] + [told["told"], told["whole"]] + [gain for row in told["gains"] for gain in row]
            self.assertTrue(all(is_fraction(thing) for thing in fractions))
            self.assertIs(type(told["rests"]), bool)

    def test_what_is_handed_over_stays(self):
        for net, travellers, steps in self.crowds():
            kept = copy.deepcopy((net, travellers, steps))
            crowd = Crowd(net, travellers, steps)
            all_told_by(crowd)
            crowd.settle()
            self.assertEqual((net, travellers, steps), kept)

    def test_what_is_refused_stays(self):
        inner = [1, 2]
        lost = [(3, 0, True), (0, 3, False)]
        rows = [
            ([(0, inner, False)], [(0, 1, ONE)]), ([], []), ([(0, 3, False)], [(0, inner, ONE)]),
            ([(0, 3, False)], [(0, 1, inner)]), (lost, [(0, 1, ONE)]), ([(0, 3, inner)] * 7, [()] * 13),
        ]
        for travellers, steps in rows:
            kept = copy.deepcopy((ACROSS, travellers, steps))
            net = copy.deepcopy(ACROSS)
            self.assertIsNotNone(refusal_of(lambda: Crowd(net, travellers, steps)))
            self.assertEqual((net, travellers, steps), kept)

    def test_changing_what_was_handed_over_changes_no_crowd(self):
        for net, travellers, steps in self.crowds():
            wanted = all_told_by(Crowd(*copy.deepcopy((net, travellers, steps))))
            settled = Crowd(*copy.deepcopy((net, travellers, steps))).settle()
            crowd = Crowd(net, travellers, steps)
            net[1].clear()
            travellers.append((0, 1, True))
            travellers[0] = None
            steps.append((0, 1, (9, 1)))
            steps[0] = None
            self.assertEqual(all_told_by(crowd), wanted)
            self.assertEqual(crowd.settle(), settled)

    def test_changing_what_was_told_changes_no_crowd(self):
        for net, travellers, steps in self.crowds():
            crowd = Crowd(net, travellers, steps)
            crowd.settle()
            wanted = all_told_by(crowd)
            for row in lists_in(list(all_told_by(crowd).values()) + [crowd.settle()]):
                row.append(7)
                row[0] = None
            self.assertEqual(all_told_by(crowd), wanted)
            self.assertEqual(crowd.settle(), [])

    def test_no_later_deed_reaches_back(self):
        for net, travellers, steps in self.crowds():
            crowd = Crowd(net, travellers, steps)
            before = all_told_by(crowd)
            kept = copy.deepcopy(before)
            for traveller, ways in enumerate(before["ways"]):
                crowd.go(traveller, len(ways) - 1)
            changes = crowd.settle()
            kept_changes = list(changes)
            for traveller in range(len(travellers)):
                crowd.go(traveller, 0)
            crowd.settle()
            self.assertEqual((before, changes), (kept, kept_changes))

    def test_like_deeds_have_like_answers(self):
        draw = random.Random(432)
        for net, travellers, steps in self.crowds():
            one = Crowd(net, travellers, steps)
            other = Crowd(net, travellers, steps)
            for unused in range(3):
                traveller = draw.randrange(len(travellers))
                number = draw.randrange(len(own_ways(net, travellers[traveller])))
                one.go(traveller, number)
                other.go(traveller, number)
                self.assertEqual(all_told_by(one), all_told_by(other))
                self.assertEqual(all_told_by(one), all_told_by(one))
            self.assertEqual(one.settle(), other.settle())
            self.assertEqual(all_told_by(one), all_told_by(other))

    def test_crowds_keep_to_themselves(self):
        travellers = [GOER] * 3
        one = Crowd(BESIDE, travellers)
        other = Crowd(BESIDE, travellers)
        wanted = all_told_by(other)
        one.go(0, 1)
        one.settle()
        self.assertEqual(all_told_by(other), wanted)
        self.assertEqual(all_told_by(Crowd(BESIDE, travellers)), wanted)

    def test_alike_travellers_share_no_lists(self):
        crowd = Crowd(ACROSS, [(0, 3, False)] * 2)
        crowd.ways(0)[0].append(9)
        self.assertEqual(crowd.ways(1), [[0, 1], [0, 4, 3], [2, 3]])


if __name__ == "__main__":
    unittest.main()
