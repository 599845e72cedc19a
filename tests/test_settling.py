import copy
import random
import unittest
from fractions import Fraction
from itertools import product

from carried import few, great, noughts, small
from crowdroads.crowd import Crowd
from crowdroads.errors import TooMany
from crowdroads.moods import Hasty, Keen, Wary
from crowdroads.nets import made_net
from crowds import LONG, Plain, all_told_by, drawn_crowds, sent
from drawn import written
from handmade import ACROSS, FREE, GROWS, LANE, STAYS, road
from limits import within
from samples import error_of, refusal_of, whole

STYLES = (noughts, few, small, great)
BESIDE = made_net(2, [road(0, 1, GROWS), road(0, 1, STAYS)])
GOER = (0, 1, False)


def greatest(gains):
    return gains.index(max(gains))


def first(gains):
    return [gain > 0 for gain in gains].index(True)


def least(gains):
    return gains.index(min(gain for gain in gains if gain > 0))


# Each mood that settle takes, with the place that it is to pick.
MOODS = ((None, greatest), (Keen(), greatest), (Hasty(), first), (Wary(), least))


def next_change(plain, chosen, picked):
    """The change that is due, by the test's own sums; None where nobody gains."""
    for traveller, gains in enumerate(plain.all_gains(chosen)):
        if max(gains) > 0:
            place = picked(gains)
            return (traveller, chosen[traveller], place, written(gains[place]))
    return None


def changes_due(plain, chosen, picked):
    """All changes that are due, and the ways that are taken in the end."""
    chosen = list(chosen)
    found = []
    change = next_change(plain, chosen, picked)
    while change is not None:
        found.append(change)
        chosen[change[0]] = change[2]
        change = next_change(plain, chosen, picked)
    return found, chosen


class SettlingTest(unittest.TestCase):
    """[20]: a crowd is settled, and then it rests."""

    def check_settled(self, crowd, start, mood, picked):
        """A crowd is a tuple (net, travellers, steps); tells how many changes there were."""
        plain = Plain(*crowd)
        sent_out = sent(*crowd, start)
        told = within(20, lambda: sent_out.settle(mood))
        due, chosen = changes_due(plain, start, picked)
        self.assertEqual(told, due)
        self.assertIs(type(told), list)
        self.assertEqual({type(row) for row in told} | {tuple}, {tuple})
        self.assertEqual(all_told_by(sent_out), plain.all_told(chosen))
        self.assertTrue(sent_out.rests())
        self.assertTrue(all(gain <= 0 for row in plain.all_gains(chosen) for gain in row))
        gained = sum(Fraction(*gain) for traveller, old, new, gain in told)
        self.assertEqual(Fraction(*sent_out.told()), plain.told(start) - gained)
        self.assertTrue(all(gain[0] > 0 for traveller, old, new, gain in told))
        self.assertEqual(sent_out.settle(mood), [])
        self.assertEqual(sent_out.taken(), chosen)
        return len(told)

    def test_by_hand(self):
        crowd = Crowd(BESIDE, [GOER] * 3)
        self.assertEqual(crowd.settle(), [(0, 0, 1, (2, 1)), (1, 0, 1, (1, 1))])
        self.assertEqual((crowd.taken(), crowd.told(), crowd.whole()), ([1, 1, 0], (3, 1), (3, 1)))
        self.assertEqual(crowd.settle(), [])

    def test_one_by_one_ahead_of_later_ones(self):
        # Behind its change the first traveller gains again, as soon as another one has gone.
        net = made_net(2, [road(0, 1, GROWS), (0, 1, (1, 1), (2, 1), False), (0, 1, (1, 2), (3, 1), False)])
        crowd = (net, [GOER] * 6, [])
        counts = [self.check_settled(crowd, [place] * 6, mood, picked) for place in range(3) for mood, picked in MOODS]
        self.assertGreater(min(counts), 1)

    def test_each_mood_by_hand(self):
        net = made_net(2, [(0, 1, (base, 1), (0, 1), False) for base in (9, 7, 3, 8, 3, 8)])
        for mood, changes in (
            (None, [(0, 0, 2, (6, 1))]),
            (Keen(), [(0, 0, 2, (6, 1))]),
            (Hasty(), [(0, 0, 1, (2, 1)), (0, 1, 2, (4, 1))]),
            (Wary(), [(0, 0, 3, (1, 1)), (0, 3, 1, (1, 1)), (0, 1, 2, (4, 1))]),
        ):
            crowd = Crowd(net, [GOER])
            self.assertEqual(crowd.settle(mood), changes)
            self.assertEqual(crowd.taken(), [2])

    def test_steps_alone(self):
        net = made_net(2, [road(0, 1, FREE)] * 3)
        crowd = Crowd(net, [GOER] * 3, [(0, 2, (1, 2)), (0, 3, (1, 3)), (1, 2, (5, 1)), (2, 1, (1, 7))])
        self.assertEqual(crowd.settle(Hasty()), [(0, 0, 1, (5, 6)), (1, 0, 2, (5, 14))])
        self.assertEqual((crowd.taken(), crowd.told()), ([1, 2, 0], (1, 7)))

    def test_who_gains_nothing_stays(self):
        crowd = Crowd(ACROSS, [(0, 3, False)])
        for mood, picked in MOODS:
            crowd.go(0, 1)
            self.assertEqual(crowd.settle(mood), [])
            self.assertEqual(crowd.taken(), [1])
        crowd = Crowd(made_net(2, [road(0, 1, FREE)] * 6), [GOER] * 6)
        self.assertEqual((crowd.rests(), crowd.settle()), (True, []))

    def test_lanes(self):
        crowd = (LANE, [(0, 1, False), (0, 1, True), (0, 1, True)], [])
        for mood, picked in MOODS:
            self.check_settled(crowd, [0, 0, 0], mood, picked)
            self.check_settled(crowd, [0, 1, 1], mood, picked)

    def test_drawn_crowds(self):
        for seed, style in enumerate(STYLES, start=441):
            counts = []
            for crowd in drawn_crowds(seed, 40, style, fewest_ways=4):
                counts += [self.check_settled(crowd, [0] * len(crowd[1]), *mood) for mood in MOODS]
            self.assertIn(0, counts)
            self.assertGreater(max(counts), 3)

    def test_drawn_crowds_from_other_ways(self):
        draw = random.Random(445)
        for seed, style in enumerate(STYLES, start=446):
            for crowd in drawn_crowds(seed, 15, style, fewest_ways=10):
                start = Plain(*crowd).drawn_choice(draw)
                for mood, picked in MOODS:
                    self.check_settled(crowd, start, mood, picked)

    def test_without_steps(self):
        for seed, style in enumerate(STYLES, start=451):
            for crowd in drawn_crowds(seed, 15, style, most_steps=0, fewest_ways=8):
                for mood, picked in MOODS:
                    self.check_settled(crowd, [0] * len(crowd[1]), mood, picked)

    def test_great_numbers(self):
        draw = random.Random(455)

        def sixty():
            return written(Fraction(draw.randint(10 ** 59, 10 ** 60 - 1), draw.randint(10 ** 59, 10 ** 60 - 1)))
        net = made_net(2, [(0, 1, sixty(), sixty(), False) for unused in range(4)])
        steps = [(draw.randrange(4), draw.randint(1, 3), sixty()) for unused in range(6)]
        for mood, picked in MOODS:
            self.check_settled((net, [GOER] * 3, steps), [0] * 3, mood, picked)

    def test_one_mood_settles_several_crowds(self):
        mood = Wary()
        for crowd in drawn_crowds(456, 20, small, fewest_ways=6):
            self.assertEqual(Crowd(*crowd).settle(mood), Crowd(*crowd).settle(Wary()))


class TooManyTest(unittest.TestCase):
    """[20]: a settling of more than three hundred changes is refused, and then nothing is changed."""

    @classmethod
    def setUpClass(cls):
        cls.plain = Plain(*LONG)
        cls.due, cls.end = changes_due(cls.plain, [0] * 6, least)

    def taken_behind(self, count):
        chosen = [0] * 6
        for traveller, old, new, gain in self.due[:count]:
            chosen[traveller] = new
        return chosen

    def test_as_many_as_it_may_be(self):
        for more in (0, 1, 2, 100, 299, 300):
            begun = len(self.due) - 300 + more
            crowd = sent(*LONG, self.taken_behind(begun))
            self.assertEqual(crowd.settle(Wary()), self.due[begun:])
            self.assertEqual(crowd.taken(), self.end)
            self.assertTrue(crowd.rests())

    def test_more(self):
        for begun in range(len(self.due) - 300):
            chosen = self.taken_behind(begun)
            crowd = sent(*LONG, chosen)
            before = all_told_by(crowd)
            self.assertIs(refusal_of(lambda: crowd.settle(Wary())), TooMany)
            self.assertEqual(all_told_by(crowd), before)
            self.assertEqual(before["taken"], chosen)

    def test_refused_again_and_again_then_settled(self):
        crowd = Crowd(*LONG)
        for unused in range(3):
            self.assertIs(refusal_of(lambda: crowd.settle(Wary())), TooMany)
        self.assertEqual(crowd.taken(), [0] * 6)
        for begun in range(len(self.due) - 300):
            traveller, old, new, gain = self.due[begun]
            self.assertIs(refusal_of(lambda: crowd.settle(Wary())), TooMany)
            crowd.go(traveller, new)
        self.assertEqual(crowd.settle(Wary()), self.due[-300:])

    def test_other_moods_settle_it(self):
        crowd = Crowd(*LONG)
        self.assertIs(refusal_of(lambda: crowd.settle(Wary())), TooMany)
        self.assertEqual(crowd.settle(), changes_due(self.plain, [0] * 6, greatest)[0])
        self.assertTrue(crowd.rests())

    def test_what_was_handed_over_stays(self):
        handed = copy.deepcopy(LONG)
        crowd = Crowd(*handed)
        self.assertIs(type(error_of(lambda: crowd.settle(Wary()))), TooMany)
        self.assertEqual(handed, LONG)


class FiveHalvesTest(unittest.TestCase):
    """[21]: without steps, twice the sum at rest is at most five times that on whatever ways."""

    def least_sum(self, plain):
        """Over all choices of ways, or over some of them where they are many."""
        choices = [list(chosen) for chosen in product(*[range(len(ways)) for ways in plain.ways])]
        if len(choices) > 200:
            choices = random.Random(len(choices)).sample(choices, 200)
        return min(plain.whole(chosen) for chosen in choices)

    def test_drawn_crowds(self):
        for seed, style in enumerate(STYLES, start=461):
            for crowd in drawn_crowds(seed, 20, style, most_steps=0, fewest_ways=4):
                least_sum = self.least_sum(Plain(*crowd))
                for mood, picked in MOODS:
                    settled = Crowd(*crowd)
                    settled.settle(mood)
                    self.assertLessEqual(2 * Fraction(*settled.whole()), 5 * least_sum)

    def test_rest_may_cost_more(self):
        net = made_net(2, [road(0, 1, GROWS), (0, 1, (2, 1), (0, 1), False)])
        crowd = Crowd(net, [GOER] * 2)
        self.assertTrue(crowd.rests())
        self.assertEqual(crowd.whole(), (4, 1))
        crowd.go(1, 1)
        self.assertEqual(crowd.whole(), (3, 1))

    def test_just_five_halves(self):
        pairs = ((0, 1), (0, 2), (1, 2), (2, 1))
        net = made_net(3, [road(start, end, GROWS) for start, end in pairs] + [road(1, 0, FREE), road(2, 0, FREE)])
        crowd = sent(net, [pair + (False,) for pair in pairs], None, [1, 0, 1, 1])
        # Each one goes by two roads, and straight it would be no sooner there.
        self.assertEqual([crowd.time_of(traveller) for traveller in range(4)], whole(3, 3, 2, 2))
        self.assertEqual((crowd.rests(), crowd.settle(), crowd.whole()), (True, [], (10, 1)))
        for traveller, number in enumerate((0, 1, 0, 0)):
            crowd.go(traveller, number)
        self.assertEqual((crowd.rests(), crowd.whole()), (True, (4, 1)))


if __name__ == "__main__":
    unittest.main()
