import importlib
import inspect
import unittest

# For each module the functions that the document names, with their arguments.
FUNCTIONS = {
    "fractions": (
        "fraction(top, bottom)", "is_fraction(thing)", "sum_of(one, other)", "rest_of(one, other)",
        "product_of(one, other)", "part_of(one, other)", "is_less(one, other)",
    ),
    "nets": ("made_net(many, roads)",),
    "wishes": ("made_wishes(net, wishes)", "ways_of(net, wish)"),
    "heights": ("height_list(net, wish, times)",),
    "flows": (
        "share_fits(net, wishes, share)", "load_list(net, share)", "road_times(net, share)",
        "dear_times(net, share)", "sum_of_times(net, share)", "told_number(net, share)",
        "roads_over(net, wishes, share, times=None)",
    ),
    "apart": ("told_apart(net, wish, flow)", "without_rings(net, wish, flow)"),
    "rest": ("resting_share(net, wishes)",),
    "least": (
        "least_share(net, wishes)", "toll_list(net, wishes)", "tolled_net(net, tolls)", "four_thirds(net, wishes)",
    ),
}


class InterfaceTest(unittest.TestCase):
    """The head of the interface: names and arguments stand as they are told there."""

    def test_names_and_arguments(self):
        for module, rows in FUNCTIONS.items():
            for row in rows:
                name = row.partition("(")[0]
                told = getattr(importlib.import_module(f"crowdroads.{module}"), name)
                self.assertEqual(name + str(inspect.signature(told)), row)


if __name__ == "__main__":
    unittest.main()
