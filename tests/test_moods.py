import copy
import random
import unittest
from fractions import Fraction

from crowdroads.moods import Hasty, Keen, Wary
from drawn import written
from samples import whole

GREAT = 10 ** 60 - 1


def picks(gains):
    """What the keen, the hasty and the wary mood pick."""
    return (Keen().pick(gains), Hasty().pick(gains), Wary().pick(gains))


class MoodTest(unittest.TestCase):
    """[20]: the places that the three moods pick."""

    def check_picks(self, gains, keen, hasty, wary):
        with self.subTest(gains=gains):
            told = picks(gains)
            self.assertEqual(told, (keen, hasty, wary))
            self.assertEqual({type(place) for place in told}, {int})

    def test_one_gain(self):
        self.check_picks(whole(1), 0, 0, 0)
        self.check_picks([(1, GREAT)], 0, 0, 0)
        self.check_picks(whole(0, 3), 1, 1, 1)
        self.check_picks(whole(3, 0), 0, 0, 0)
        self.check_picks(whole(0, -2, 0, -7, 1, -1), 4, 4, 4)

    def test_several(self):
        self.check_picks(whole(1, 2, 3), 2, 0, 0)
        self.check_picks(whole(3, 2, 1), 0, 0, 2)
        self.check_picks(whole(2, 3, 1), 1, 0, 2)
        self.check_picks(whole(0, 2, 5, 1, 4), 2, 1, 3)

    def test_equal_ones_the_first(self):
        self.check_picks(whole(0, 2, 2, 2), 1, 1, 1)
        self.check_picks(whole(0, 1, 3, 1, 3), 2, 1, 1)
        self.check_picks(whole(0, 3, 1, 3, 1), 1, 1, 2)
        self.check_picks(whole(5, 5, 5, 5, 5, 5), 0, 0, 0)
        self.check_picks(whole(0, 2, 1, 1, 2, 0), 1, 1, 2)

    def test_noughts_and_losses_are_no_gains(self):
        self.check_picks(whole(0, -1, 2, 1), 2, 2, 3)
        self.check_picks(whole(-5, 0, 0, 3, -2, 2, 4), 6, 3, 5)
        self.check_picks([(-1, 2), (-GREAT, 1), (0, 1), (1, GREAT)], 3, 3, 3)
        self.check_picks([(-3, 1), (2, 1), (-4, 1), (1, 1)], 1, 1, 3)

    def test_unlike_bottoms(self):
        self.check_picks([(1, 2), (1, 3), (2, 3), (1, 4)], 2, 0, 3)
        self.check_picks([(5, 7), (3, 4), (2, 3)], 1, 0, 2)
        # Neither the tops nor the bottoms alone tell which is greater.
        self.check_picks([(9, 10), (2, 1), (10, 9), (1, 1)], 1, 0, 0)
        self.check_picks([(1, 2), (7, 3), (12, 5), (30, 13)], 2, 0, 0)

    def test_great_and_small_ones(self):
        self.check_picks([(GREAT - 1, GREAT), (1, 1), (GREAT, GREAT - 1)], 2, 0, 0)
        self.check_picks([(1, 1), (GREAT, 1), (GREAT - 1, 1), (1, GREAT), (2, GREAT)], 1, 0, 3)
        self.check_picks([(1, GREAT - 1), (1, GREAT), (1, GREAT - 2)], 2, 0, 1)

    def test_drawn_gains(self):
        draw = random.Random(401)
        for unused in range(600):
            gains = [Fraction(draw.randint(-6, 6), draw.choice((1, 1, 2, 3))) for unused in range(draw.randint(1, 6))]
            above = [gain for gain in gains if gain > 0]
            if above:
                places = (gains.index(max(above)), gains.index(above[0]), gains.index(min(above)))
                self.check_picks([written(gain) for gain in gains], *places)

    def test_the_list_stays(self):
        gains = whole(0, 3, -1, 2, 3)
        kept = copy.deepcopy(gains)
        self.assertEqual(picks(gains), (1, 1, 3))
        self.assertEqual(gains, kept)

    def test_a_mood_keeps_nothing(self):
        for mood, places in ((Keen(), (2, 0)), (Hasty(), (1, 0)), (Wary(), (1, 2))):
            for unused in range(2):
                self.assertEqual((mood.pick(whole(0, 1, 2)), mood.pick(whole(9, 8, 7))), places)

    def test_what_stands_under_keen(self):
        self.assertEqual(Keen.__bases__, (object,))
        self.assertEqual(Hasty.__bases__, (Keen,))
        self.assertEqual(Wary.__bases__, (Keen,))
        self.assertFalse(issubclass(Hasty, Wary) or issubclass(Wary, Hasty))
        self.assertTrue(isinstance(Hasty(), Keen) and isinstance(Wary(), Keen))


if __name__ == "__main__":
    unittest.main()
