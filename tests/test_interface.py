import importlib
import inspect
import unittest

from crowdroads.crowd import Crowd
from crowdroads.moods import Hasty, Keen, Wary

# For each module the functions and classes that the document names, with their arguments.
FUNCTIONS = {
    "fractions": (
        "fraction(top, bottom)", "is_fraction(thing)", "sum_of(one, other)", "rest_of(one, other)",
        "product_of(one, other)", "part_of(one, other)", "is_less(one, other)",
    ),
    "nets": ("made_net(many, roads)",),
    "wishes": ("made_wishes(net, wishes)", "ways_of(net, wish)"),
    "heights": ("height_list(net, wish, times)",),
    "flows": (
        "share_fits(net, wishes, share)", "load_list(net, share)", "road_times(net, share)",
        "dear_times(net, share)", "sum_of_times(net, share)", "told_number(net, share)",
        "roads_over(net, wishes, share, times=None)",
    ),
    "apart": ("told_apart(net, wish, flow)", "without_rings(net, wish, flow)"),
    "rest": ("resting_share(net, wishes)",),
    "least": (
        "least_share(net, wishes)", "toll_list(net, wishes)", "tolled_net(net, tolls)", "four_thirds(net, wishes)",
    ),
    "moods": ("Keen()", "Hasty()", "Wary()"),
    "crowd": ("Crowd(net, travellers, steps=None)",),
    "works": (
        "opened_net(net, road)", "closed_net(net, number)", "widened_net(net, number, by)",
        "times_compared(net, other, wishes)",
    ),
    "texts": ("read_net(text)", "net_text(net, wishes)"),
}

# For each class the methods that the document names.
METHODS = {
    Keen: ("pick(gains)",),
    Hasty: ("pick(gains)",),
    Wary: ("pick(gains)",),
    Crowd: (
        "ways(traveller)", "taken()", "go(traveller, number)", "time_of(traveller)", "gains(traveller)", "told()",
        "whole()", "rests()", "settle(mood=None)",
    ),
}


class InterfaceTest(unittest.TestCase):
    """The head of the interface: names and arguments stand as they are told there."""

    def test_names_and_arguments(self):
        for module, rows in FUNCTIONS.items():
            for row in rows:
                name = row.partition("(")[0]
                told = getattr(importlib.import_module(f"crowdroads.{module}"), name)
                self.assertEqual(name + str(inspect.signature(told)), row)

    def test_methods(self):
        things = (Keen(), Hasty(), Wary(), Crowd((2, [(0, 1, (0, 1), (1, 1), False)]), [(0, 1, False)]))
        for thing in things:
            for row in METHODS[type(thing)]:
                name = row.partition("(")[0]
                self.assertEqual(name + str(inspect.signature(getattr(thing, name))), row)

    def test_arguments_by_their_names(self):
        crowd = Crowd(net=(2, [(0, 1, (0, 1), (1, 1), False)]), travellers=[(0, 1, False)], steps=[(0, 1, (2, 1))])
        self.assertEqual(crowd.settle(mood=None), [])
        self.assertIsNone(crowd.go(traveller=0, number=0))
        self.assertEqual(crowd.time_of(traveller=0), (3, 1))
        self.assertEqual(Wary().pick(gains=[(2, 1), (1, 1)]), 1)


if __name__ == "__main__":
    unittest.main()
