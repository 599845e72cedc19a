import copy
import random
import unittest
from fractions import Fraction

from carried import drawn_carried, drawn_other, few, great, loads_of, lying_over, noughts, small, squares
from crowdroads.crowd import Crowd
from crowdroads.errors import NoNet, NoNumber, NoSuch, NoText, NoWay, NoWish, RoadError, TooMany
from crowdroads.flows import dear_times, road_times, roads_over, share_fits, sum_of_times, told_number
from crowdroads.least import four_thirds, least_share, toll_list, tolled_net
from crowdroads.moods import Hasty, Keen, Wary
from crowdroads.rest import resting_share
from crowdroads.texts import net_text, read_net
from crowdroads.wishes import made_wishes, ways_of
from crowdroads.works import closed_net, opened_net, times_compared, widened_net
from drawn import values
from samples import error_of, lists_in, refusal_of

STYLES = (noughts, few, small, great)
TEXT = (
    "places 4; road 0 1 0 1; road 1 3 1 0; road 0 2 1 0; road 2 3 0 1; lane 1 2 0 0; "
    "wish 0 3 1/2; bus 0 3 1/2"
)


def drawn_texts(seed, count):
    return [net_text(*pair) for style in STYLES for pair in drawn_carried(seed, count, style)]


def sum_by(net, share):
    return Fraction(*sum_of_times(net, share))


class PromiseTest(unittest.TestCase):
    """[3]: the promise, from a text on."""

    def check_on_heights(self, net, wishes, share, times, heights):
        """Each road that a wish uses lies on its heights, none that it may take lies below them."""
        times = values(times)
        for one, flow, own in zip(wishes, share, map(values, heights)):
            self.assertEqual(own[one[0]], 0)
            for (start, end, base, slope, lane), amount, time in zip(net[1], flow, times):
                if own[start] is None or (lane and not one[3]):
                    self.assertEqual(amount, (0, 1))
                else:
                    self.assertGreaterEqual(own[start] + time, own[end])
                    if amount[0] > 0:
                        self.assertEqual(own[start] + time, own[end])

    def test_from_a_text_to_rest(self):
        for text in drawn_texts(521, 40):
            net, wishes = read_net(text)
            share, heights = resting_share(net, wishes)
            self.assertTrue(share_fits(net, wishes, share))
            self.check_on_heights(net, wishes, share, road_times(net, share), heights)
            self.assertEqual(roads_over(net, wishes, share), [])

    def test_from_a_text_to_the_least_sum(self):
        draw = random.Random(522)
        for text in drawn_texts(523, 40):
            net, wishes = read_net(text)
            best, heights = least_share(net, wishes)
            times = dear_times(net, best)
            self.assertTrue(share_fits(net, wishes, best))
            self.check_on_heights(net, wishes, best, times, heights)
            other = drawn_other(draw, net, wishes)
            more = squares(net, loads_of(best), loads_of(other)) + lying_over(net, other, times, heights)
            self.assertEqual(sum_by(net, other), sum_by(net, best) + more)
            tolled = tolled_net(net, toll_list(net, wishes))
            self.assertEqual(roads_over(tolled, wishes, best), [])

    def test_from_a_text_to_four_thirds(self):
        for text in drawn_texts(524, 40):
            net, wishes = read_net(text)
            rest, best, rows, lag = four_thirds(net, wishes)
            self.assertEqual(roads_over(net, wishes, rest), [])
            self.assertEqual(roads_over(net, wishes, best, dear_times(net, best)), [])
            spare = 4 * sum_by(net, best) - 3 * sum_by(net, rest)
            self.assertEqual(spare, sum(values(rows)) + 4 * Fraction(*lag))
            self.assertGreaterEqual(spare, 0)

    def test_by_hand(self):
        net, wishes = read_net(TEXT)
        rest, best, rows, lag = four_thirds(net, wishes)
        self.assertEqual((sum_of_times(net, rest), sum_of_times(net, best)), ((13, 8), (3, 2)))
        heights = resting_share(net, wishes)[1]
        self.assertEqual(heights, [[(0, 1), (3, 4), (1, 1), (7, 4)], [(0, 1), (3, 4), (3, 4), (3, 2)]])

    def test_one_by_one_on_a_net_from_a_text(self):
        for text in drawn_texts(525, 10):
            net, wishes = read_net(text)
            travellers = [(start, end, lane) for start, end, amount, lane in wishes] * 2
            if max(len(ways_of(net, one)) for one in wishes) > 6:
                self.assertIs(refusal_of(lambda: Crowd(net, travellers)), TooMany)
                continue
            for mood in (None, Keen(), Hasty(), Wary()):
                crowd = Crowd(net, travellers)
                before = Fraction(*crowd.told())
                changes = crowd.settle(mood)
                gained = sum(Fraction(*gain) for traveller, old, new, gain in changes)
                self.assertEqual(Fraction(*crowd.told()), before - gained)
                gains = [gain for traveller in range(len(travellers)) for gain in crowd.gains(traveller)]
                self.assertTrue(crowd.rests() and all(top <= 0 for top, bottom in gains))

    def test_works_on_a_net_from_a_text(self):
        net, wishes = read_net(TEXT)
        closed = closed_net(net, 4)
        self.assertEqual(times_compared(net, closed, wishes), [((7, 4), (3, 2)), ((3, 2), (3, 2))])
        road = (1, 2, (0, 1), (0, 1), False)
        opened = opened_net(closed, road)
        text = TEXT.replace("lane", "road")
        self.assertEqual(net_text(opened, wishes), text)
        self.assertEqual(read_net(text), (opened, wishes))
        self.assertEqual(times_compared(closed, opened, wishes), [((3, 2), (2, 1))] * 2)
        self.assertEqual(net_text(widened_net(net, 0, (2, 1)), wishes), TEXT.replace("road 0 1 0 1", "road 0 1 0 1/2"))

    def test_what_the_net_cannot_carry_is_refused_everywhere_alike(self):
        net = read_net(TEXT)[0]
        opened = opened_net(net, (1, 2, (0, 1), (0, 1), False))
        lost = (1, 2, (1, 1), False)
        deeds = (
            lambda: made_wishes(net, [lost]), lambda: Crowd(net, [lost[:2] + lost[3:]]),
            lambda: read_net(net_text(net, [lost])), lambda: times_compared(opened, net, [lost]),
        )
        for deed in deeds:
            error = error_of(deed)
            self.assertIs(type(error), NoWay)
            self.assertEqual((error.wish, error.reached), (0, [1, 3]))
            self.assertTrue(isinstance(error, RoadError) and isinstance(error, ValueError))

    def test_each_refusal_has_a_list_of_its_own(self):
        errors = [error_of(lambda: read_net("places 3; road 0 1 0 0; wish 0 2 1")) for unused in range(2)]
        errors[0].reached.append(2)
        self.assertEqual(errors[1].reached, [0, 1])


class TruthTest(unittest.TestCase):
    """[2]: True and False are truths, never numbers."""

    def test_no_number_is_a_truth(self):
        net, wishes = read_net(TEXT)
        crowd = Crowd(net, [(0, 3, True), (0, 3, False)])
        for truth in (True, False):
            for deed, wanted in (
                (lambda: opened_net(net, (0, 3, (truth, 1), (0, 1), False)), NoNet),
                (lambda: opened_net(net, (truth, 3, (0, 1), (0, 1), False)), NoNet),
                (lambda: closed_net(net, truth), NoSuch), (lambda: widened_net(net, truth, (1, 1)), NoSuch),
                (lambda: widened_net(net, 1, truth), NoNumber), (lambda: widened_net(net, 1, (1, truth)), NoNumber),
                (lambda: crowd.ways(truth), NoSuch), (lambda: crowd.go(0, truth), NoSuch),
                (lambda: crowd.go(truth, 0), NoSuch), (lambda: Crowd(net, [(truth, 3, True)]), NoWish),
                (lambda: read_net(f"places {truth}"), NoText),
            ):
                self.assertIs(refusal_of(deed), wanted)

    def test_no_truth_is_a_number(self):
        net = read_net(TEXT)[0]
        for number in (0, 1):
            self.assertIs(refusal_of(lambda: Crowd(net, [(0, 3, number)])), NoWish)
            self.assertIs(refusal_of(lambda: opened_net(net, (0, 3, (1, 1), (1, 1), number))), NoNet)


class BelongingTest(unittest.TestCase):
    """[2]: over several calls, what was handed over and what was told stay."""

    def asked(self, net, wishes):
        """All that is told of a net and wishes, one call after another."""
        share = resting_share(net, wishes)
        tolls = toll_list(net, wishes)
        crowd = Crowd(net, [(one[0], one[1], one[3]) for one in wishes], [(0, 1, (1, 2))])
        told = [crowd.ways(0), crowd.taken(), crowd.gains(0), crowd.settle(Wary()), crowd.taken(), crowd.told()]
        return told + [
            made_wishes(net, wishes), share, told_number(net, share[0]), least_share(net, wishes), tolls,
            tolled_net(net, tolls), four_thirds(net, wishes), closed_net(net, 0), widened_net(net, 0, (2, 3)),
            times_compared(net, tolled_net(net, tolls), wishes), net_text(net, wishes),
        ]

    def pairs(self):
        found = [pair for style in (few, small) for pair in drawn_carried(531, 30, style)]
        return [pair for pair in found if max(len(ways_of(pair[0], one)) for one in pair[1]) <= 6]

    def test_asked_twice_with_others_between(self):
        pairs = self.pairs()
        kept = copy.deepcopy(pairs)
        first = [self.asked(*pair) for pair in pairs]
        kept_first = copy.deepcopy(first)
        second = [self.asked(*pair) for pair in reversed(pairs)]
        self.assertEqual(pairs, kept)
        self.assertEqual(first, kept_first)
        self.assertEqual(second[::-1], first)

    def test_lists_told_are_the_callers_own(self):
        for net, wishes in self.pairs()[:20]:
            kept = copy.deepcopy((net, wishes))
            first = self.asked(net, wishes)
            second = self.asked(net, wishes)
            wanted = copy.deepcopy(second)
            for row in lists_in(first):
                row.append(None)
                row[0] = None
            self.assertEqual((net, wishes), kept)
            self.assertEqual(second, wanted)
            self.assertEqual(self.asked(net, wishes), wanted)


if __name__ == "__main__":
    unittest.main()
