import unittest

from crowdroads import errors
from crowdroads.errors import NoText, NoWay, RoadError

NAMES = (
    "NoNumber", "NoNet", "NoWish", "NoWay", "TooMany", "NoShare", "NoStep", "NoSuch", "NoText",
)


class ErrorsTest(unittest.TestCase):
    """The head of the interface, and errors.py."""

    def test_road_error_stands_straight_under_value_error(self):
        self.assertEqual(RoadError.__bases__, (ValueError,))

    def test_each_class_stands_straight_under_road_error(self):
        for name in NAMES:
            with self.subTest(name):
                self.assertEqual(getattr(errors, name).__bases__, (RoadError,))

    def test_none_stands_under_another_one(self):
        for name in NAMES:
            for other in NAMES:
                with self.subTest(name, other=other):
                    under = issubclass(getattr(errors, name), getattr(errors, other))
                    self.assertEqual(under, name == other)

    def test_each_class_bears_its_name(self):
        for name in NAMES + ("RoadError",):
            self.assertEqual(getattr(errors, name).__name__, name)

    def test_each_plain_class_is_raised_and_taken_as_a_value_error(self):
        for name in NAMES:
            if name in ("NoWay", "NoText"):
                continue
            with self.subTest(name), self.assertRaises(ValueError):
                raise getattr(errors, name)("words")

    def test_no_way_tells_the_wish_and_the_places_reached(self):
        with self.assertRaises(ValueError) as taken:
            raise NoWay(2, [0, 3, 5])
        self.assertEqual(taken.exception.wish, 2)
        self.assertEqual(taken.exception.reached, [0, 3, 5])
        self.assertIs(type(taken.exception.reached), list)

    def test_no_way_keeps_no_list_of_its_maker(self):
        places = [0, 3]
        error = NoWay(0, places)
        places.append(4)
        self.assertEqual(error.reached, [0, 3])

    def test_two_no_ways_keep_their_own_values(self):
        one = NoWay(0, [0])
        other = NoWay(1, [1, 2])
        one.reached.append(5)
        self.assertEqual((one.wish, other.wish), (0, 1))
        self.assertEqual(other.reached, [1, 2])

    def test_no_text_tells_the_part(self):
        with self.assertRaises(ValueError) as taken:
            raise NoText(7)
        self.assertEqual(taken.exception.part, 7)


if __name__ == "__main__":
    unittest.main()
