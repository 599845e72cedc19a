import copy
import random
import unittest
from itertools import product

from carried import drawn_carried, few, great, noughts, small
from crowdroads.errors import NoNet, NoText, NoWay, NoWish, TooMany
from crowdroads.nets import made_net
from crowdroads.texts import net_text, read_net
from crowdroads.wishes import made_wishes
from handmade import ACROSS, NOUGHT, ONE, wish
from samples import error_of, refusal_of

EIGHTEEN = 10 ** 18 - 1
PARTS = ["places 3", "road 0 1 1 2/3", "lane 1 2 0 5", "wish 0 1 1/2", "bus 0 2 7"]
TEXT = "; ".join(PARTS)
NET = (3, [(0, 1, (1, 1), (2, 3), False), (1, 2, (0, 1), (5, 1), True)])
WISHES = [(0, 1, (1, 2), False), (0, 2, (7, 1), True)]
# Words in the place of which no other one may stand, by the kind of the word.
NO_FIGURES = [
    "", "00", "01", "10", "12", "-1", "+1", "a", "A", "x", ".", "1.", "1/2", "0/1", "one", "None", "True", "O",
    ";", "1;", ";1", "1\n", "\n1", "\n", "0x1", "1_0", "~", "!", "'1'", "(1)", "#", "/", "\\", "1" * 18, "1" * 400,
]
NO_AMOUNTS = [
    "", "00", "01", "007", "-1", "+1", "-0", "a", "1a", "a1", ".", "1.", "1.0", ".5", "1e3", "1,0", "1_000", "0x10",
    "one", "None", "True", "/", "1/", "/2", "//", "1//2", "1/2/3", "1/2/", "/1/2", "1/-2", "-1/2", "+1/2", "1/+2",
    "01/2", "1/02", "00/1", "1/1", "0/1", "7/1", "1/0", "0/0", "0/2", "0/7", "2/2", "2/4", "6/4", "3/9", "10/5",
    "1" + "0" * 18, "9" * 19, "1" * 400, "0" * 18, "1/" + "1" + "0" * 18, "1" + "0" * 18 + "/3", "1/" + "9" * 400,
    "1;", ";1", "1\n", "\n1", "1\n2", "\n", "1\\2", "1|2", "(1,2)", "1:2", "~", "!1", "1!", "1'", "\"1\"",
]
AMOUNTS = (
    ("0", (0, 1)), ("1", (1, 1)), ("9", (9, 1)), ("10", (10, 1)), ("100", (100, 1)), ("1/2", (1, 2)), ("3/2", (3, 2)),
    ("2/3", (2, 3)), ("10/7", (10, 7)), ("1/10", (1, 10)), ("9" * 18, (EIGHTEEN, 1)), ("1/" + "9" * 18, (1, EIGHTEEN)),
    ("9" * 18 + "/2", (EIGHTEEN, 2)), ("1" + "0" * 17, (10 ** 17, 1)),
    ("9" * 18 + "/1" + "0" * 17, (EIGHTEEN, 10 ** 17)),
)


def read_again(text):
    return net_text(*read_net(text))


class TextTest(unittest.TestCase):
    """What each test of refusals needs."""

    def check_no_text(self, text, part):
        with self.subTest(text=text):
            error = error_of(lambda: read_net(text))
            self.assertIs(type(error), NoText)
            self.assertEqual(error.part, part)
            self.assertIs(type(error.part), int)

    def check_part(self, number, part):
        """A text with another part in a place."""
        self.check_no_text("; ".join(PARTS[:number] + [part] + PARTS[number + 1:]), number)

    def check_refused(self, text, wanted):
        with self.subTest(text=text):
            self.assertIs(refusal_of(lambda: read_net(text)), wanted)


class ReadTest(TextTest):
    """[25]: a text that tells a net and wishes."""

    def check_read(self, text, net, wishes):
        told = read_net(text)
        self.assertEqual(told, (net, wishes))
        self.assertEqual([type(told), type(told[0]), type(told[0][1]), type(told[1])], [tuple, tuple, list, list])
        self.assertEqual({type(row) for row in told[0][1] + told[1]}, {tuple})
        self.assertEqual(made_net(*told[0]), net)
        self.assertEqual(made_wishes(net, told[1]), wishes)
        for row in told[0][1] + told[1]:
            self.assertIs(type(row[-1]), bool)
        self.assertEqual(net_text(net, wishes), text)
        self.assertEqual(net_text(*told), text)

    def test_by_hand(self):
        self.check_read(TEXT, NET, WISHES)
        self.check_read("places 2; road 0 1 0 0; wish 0 1 1", (2, [(0, 1, NOUGHT, NOUGHT, False)]), [wish(0, 1, 1)])
        self.check_read("places 2; lane 1 0 0 0; bus 1 0 1", (2, [(1, 0, NOUGHT, NOUGHT, True)]), [wish(1, 0, 1, True)])
        text = "places 4; road 0 1 0 1; road 1 3 1 0; road 0 2 1 0; road 2 3 0 1; road 1 2 0 0; wish 0 3 1"
        self.check_read(text, ACROSS, [wish(0, 3, 1)])

    def test_amounts(self):
        for base, slope in product(AMOUNTS, AMOUNTS):
            for word, amount in AMOUNTS[1:]:
                text = f"places 2; road 0 1 {base[0]} {slope[0]}; wish 0 1 {word}"
                self.check_read(text, (2, [(0, 1, base[1], slope[1], False)]), [(0, 1, amount, False)])

    def test_one_to_eighteen_figures(self):
        for count in range(1, 19):
            for word in ("1" * count, "9" * count, "1" + "0" * (count - 1), "7" * count):
                text = f"places 2; road 0 1 {word} 0; bus 0 1 {word}"
                self.check_read(text, (2, [(0, 1, (int(word), 1), NOUGHT, False)]), [(0, 1, (int(word), 1), True)])
                top = int(word) * 2 + 1
                if len(str(top)) <= 18:
                    text = f"places 2; road 0 1 0 {top}/2; wish 0 1 1/{top}"
                    self.check_read(text, (2, [(0, 1, NOUGHT, (top, 2), False)]), [(0, 1, (1, top), False)])

    def test_places(self):
        for many in range(2, 7):
            for start, end in product(range(many), repeat=2):
                if start != end:
                    text = f"places {many}; lane {start} {end} 1 1; bus {start} {end} 1"
                    self.check_read(text, (many, [(start, end, ONE, ONE, True)]), [(start, end, ONE, True)])

    def test_as_many_as_there_may_be(self):
        roads = ["road 0 1 1 1", "lane 1 2 1 1", "road 2 3 0 1"] * 3 + ["lane 4 5 1/2 1/3"] * 3
        text = "; ".join(["places 6"] + roads + ["wish 0 1 1", "bus 1 2 1/7", "bus 4 5 " + "9" * 18])
        self.assertEqual(read_again(text), text)
        self.assertEqual([len(read_net(text)[0][1]), len(read_net(text)[1])], [12, 3])

    def test_written_and_read_again(self):
        for seed, style in enumerate((noughts, few, small, great), start=501):
            for net, wishes in drawn_carried(seed, 100, style):
                text = net_text(net, wishes)
                self.assertIs(type(text), str)
                self.assertEqual(read_net(text), (net, wishes))
                self.assertEqual(read_again(text), text)


class WrittenTest(TextTest):
    """[25]: the text of a net and wishes; with more than eighteen figures it can't be read."""

    def test_nineteen_figures_are_written_but_not_read(self):
        great_one = 10 ** 18
        net = (2, [(0, 1, (great_one, 1), (1, 2), False)])
        text = net_text(net, [wish(0, 1, 1)])
        self.assertEqual(text, "places 2; road 0 1 1000000000000000000 1/2; wish 0 1 1")
        self.check_no_text(text, 1)
        net = (2, [(0, 1, ONE, (1, great_one), True)])
        text = net_text(net, [(0, 1, (10 ** 59, 7), True)])
        self.assertEqual(text, f"places 2; lane 0 1 1 1/{great_one}; bus 0 1 1{'0' * 59}/7")
        self.check_no_text(text, 1)
        text = net_text(NET, [WISHES[0], (0, 2, (10 ** 60 - 1, 1), True)])
        self.assertEqual(text, "; ".join(PARTS[:4] + ["bus 0 2 " + "9" * 60]))
        self.check_no_text(text, 4)

    def test_roads_and_wishes_in_their_order(self):
        net = (3, NET[1][::-1])
        self.assertEqual(net_text(net, WISHES[::-1]), "; ".join([PARTS[0], PARTS[2], PARTS[1], PARTS[4], PARTS[3]]))


class NoTextTest(TextTest):
    """[25]: NoText, with the number of the first part that isn't as told."""

    def test_parts_that_are_empty(self):
        self.check_no_text("", 0)
        self.check_no_text(" ", 0)
        for number in range(5):
            self.check_part(number, "")
            self.check_part(number, " ")
        self.check_no_text("; " + TEXT, 0)
        self.check_no_text(TEXT + "; ", 5)
        self.check_no_text("; ", 0)
        self.check_no_text("; ".join(PARTS[:2] + ["", ""] + PARTS[2:]), 2)

    def test_blanks_too_many(self):
        for number, part in enumerate(PARTS):
            self.check_part(number, " " + part)
            self.check_part(number, part + " ")
            self.check_part(number, part + "  ")
            for place, sign in enumerate(part):
                if sign == " ":
                    self.check_part(number, part[:place] + " " + part[place:])
                    self.check_part(number, part[:place] + part[place + 1:])

    def test_words_too_many_or_too_few(self):
        for number, part in enumerate(PARTS):
            words = part.split(" ")
            for place in range(len(words)):
                self.check_part(number, " ".join(words[:place] + words[place + 1:]))
                self.check_part(number, " ".join(words[:place] + words[place:place + 1] + words[place:]))
            for more in ("1", "0", "x", "1/2", "road", "wish"):
                self.check_part(number, part + " " + more)
                self.check_part(number, more + " " + part)
            self.check_part(number, " ".join(words * 2))

    def test_other_heads(self):
        heads = [
            "", "Road", "ROAD", "roads", "roa", "Lane", "lanes", "Wish", "wishes", "Bus", "buses", "place", "Places",
            "way", "ring", "net", "0", "1", "-", "~", "road:", "wish\n", "\nroad", "lane,", "road;", ";bus",
        ]
        kinds = [["places"], ["road", "lane"], ["road", "lane"], ["wish", "bus"], ["wish", "bus"]]
        for number, part in enumerate(PARTS):
            for head in heads + ["places", "road", "lane", "wish", "bus"]:
                if head not in kinds[number]:
                    self.check_part(number, " ".join([head] + part.split(" ")[1:]))

    def test_the_first_part(self):
        for part in PARTS[1:] + ["places", "places 3 3", "3", "3 places", "places three", "places 3;"]:
            self.check_part(0, part)
            self.check_no_text(part, 0)
        for word in NO_FIGURES:
            self.check_part(0, "places " + word)
        for number in range(1, 5):
            self.check_part(number, "places 3")

    def test_figures_that_are_none(self):
        for number, part in enumerate(PARTS):
            words = part.split(" ")
            for place in (1, 2) if number else ():
                for word in NO_FIGURES:
                    self.check_part(number, " ".join(words[:place] + [word] + words[place + 1:]))

    def test_amounts_that_are_none(self):
        for number, part in enumerate(PARTS):
            words = part.split(" ")
            for place in range(3, len(words)):
                for word in NO_AMOUNTS:
                    self.check_part(number, " ".join(words[:place] + [word] + words[place + 1:]))

    def test_fractions_not_in_lowest_terms(self):
        for top, bottom in product(range(30), range(30)):
            text = f"places 2; road 0 1 {top}/{bottom} 1; wish 0 1 1"
            divisors = [divisor for divisor in range(2, 31) if top % divisor == 0 and bottom % divisor == 0]
            if bottom < 2 or divisors:
                self.check_no_text(text, 1)
            else:
                self.assertEqual(read_net(text)[0][1][0][2], (top, bottom))

    def test_roads_behind_wishes(self):
        self.check_no_text("; ".join(PARTS[:1] + PARTS[3:] + PARTS[1:3]), 3)
        self.check_no_text("; ".join(PARTS[:2] + [PARTS[3], PARTS[2], PARTS[4]]), 3)
        self.check_no_text("; ".join(PARTS + [PARTS[1]]), 5)
        self.check_no_text("; ".join(PARTS + [PARTS[2]]), 5)
        self.check_no_text("places 2; wish 0 1 1; road 0 1 1 1", 2)
        self.check_no_text("places 2; bus 0 1 1; lane 0 1 1 1; bus 0 1 1", 2)

    def test_signs_between_parts(self):
        for sign in (";", ";  ", " ; ", ", ", ";\n", "\n", ";\n ", "; \n", " ", ";;", ";; ", ": ", ""):
            parts = list(PARTS)
            for number in range(1, 5):
                text = "; ".join(parts[:number]) + sign + "; ".join(parts[number:])
                # Behind a blank too many, or a line feed behind the blank, it is the next part that isn't as told.
                self.check_no_text(text, number if sign in (";  ", "; \n") else number - 1)

    def test_signs_at_the_end(self):
        for sign in (";", ".", "\n", " ", "\n\n", ";\n", ",", " ;", ";;"):
            self.check_no_text(TEXT + sign, 4)
            self.check_no_text(sign + TEXT, 0)
        for sign in ("; ", "; \n", "; ;", "; .", ";  "):
            self.check_no_text(TEXT + sign, 5)

    def test_line_feeds_anywhere(self):
        for place in range(len(TEXT) + 1):
            text = TEXT[:place] + "\n" + TEXT[place:]
            part = TEXT[:place].count("; ")
            self.check_no_text(text, part)

    def test_the_first_of_several(self):
        for first in range(5):
            for later in range(first + 1, 5):
                parts = list(PARTS)
                parts[first] = "x"
                parts[later] = ""
                self.check_no_text("; ".join(parts), first)
        self.check_no_text("x; " * 50, 0)
        self.check_no_text("places 9; " + "road 9 9 0 0; " * 50 + "road", 51)

    def test_changed_signs(self):
        """Each sign changed or gone: either it is refused, or it is the text of what it tells."""
        draw = random.Random(511)
        refused = 0
        for unused in range(3000):
            place = draw.randrange(len(TEXT))
            sign = draw.choice(["", " ", ";", "; ", "/", "0", "1", "2", "-", "\n", "a", "~", "!"])
            text = TEXT[:place] + sign + TEXT[place + 1:]
            error = error_of(lambda: read_net(text))
            if error is None:
                self.assertEqual(read_again(text), text)
            else:
                self.assertIn(type(error), (NoText, NoNet, NoWish, NoWay, TooMany))
                refused += 1
        self.assertGreater(refused, 1000)


class LaterRefusalsTest(TextTest):
    """[25]: what tells no net, then what tells no wishes, is refused as there."""

    def test_no_net_by_its_places(self):
        for many in (0, 1, 7, 8, 9):
            self.check_refused(f"places {many}", NoNet)
            self.check_refused(f"places {many}; road 0 1 1 1; wish 0 1 1", NoNet)
            self.check_refused(f"places {many}; wish 0 0 0", NoNet)

    def test_no_net_by_its_roads(self):
        for many in range(2, 7):
            for start, end in product(range(10), repeat=2):
                if start >= many or end >= many or start == end:
                    for head in ("road", "lane"):
                        self.check_refused(f"places {many}; road 0 1 1 1; {head} {start} {end} 1 1; wish 0 1 1", NoNet)

    def test_no_net_by_thirteen_roads(self):
        twelve = "places 3" + "; road 0 1 1 1" * 9 + "; lane 1 2 1 1" * 3
        self.assertEqual(read_again(twelve + "; bus 1 2 1"), twelve + "; bus 1 2 1")
        for more in ("; road 0 1 1 1", "; lane 0 1 1 1", "; road 1 2 1/2 1" * 30):
            self.check_refused(twelve + more + "; bus 1 2 1", NoNet)
            self.check_refused(twelve + more, NoNet)

    def test_no_wish(self):
        head = "places 3; road 0 1 1 1; road 1 2 1 1"
        self.check_refused(head, NoWish)
        self.check_refused("places 2", NoWish)
        self.check_refused(head + "; wish 0 1 1" * 4, NoWish)
        self.check_refused(head + "; wish 0 1 1" * 3 + "; bus 1 2 1", NoWish)
        self.check_refused(head + "; wish 0 1 1" * 40, NoWish)
        for one in ("wish 0 1 0", "bus 0 1 0", "wish 0 3 1", "wish 3 0 1", "bus 9 9 1", "wish 0 0 1", "bus 2 2 1"):
            self.check_refused(f"{head}; {one}", NoWish)
            self.check_refused(f"{head}; wish 0 1 1; {one}", NoWish)
            self.check_refused(f"{head}; {one}; bus 0 1 1", NoWish)
        self.assertEqual(len(read_net(head + "; wish 0 1 1" * 3)[1]), 3)

    def check_no_way(self, text, number, reached):
        error = error_of(lambda: read_net(text))
        self.assertIs(type(error), NoWay)
        self.assertEqual((error.wish, error.reached), (number, reached))

    def test_no_way(self):
        self.check_no_way("places 2; wish 0 1 1", 0, [0])
        self.check_no_way("places 3; road 0 1 1 1; lane 1 2 1 1; bus 0 2 1; wish 0 2 1; wish 2 0 1", 1, [0, 1])
        self.check_no_way("places 3; road 0 1 1 1; lane 1 2 1 1; bus 0 2 1; bus 1 2 1; bus 2 1 1/3", 2, [2])

    def test_too_many(self):
        ten = "places 3" + "; road 0 1 1 1" * 10
        self.assertEqual(read_again(ten + "; wish 0 1 1"), ten + "; wish 0 1 1")
        self.check_refused(ten + "; road 0 1 1 1; wish 0 1 1", TooMany)
        self.check_refused(ten + "; lane 0 1 1 1; bus 0 1 1", TooMany)
        self.check_refused(ten + "; wish 0 1 1; wish 0 1 1", TooMany)
        self.check_no_way(ten + "; road 0 1 1 1; wish 0 1 1; wish 1 2 1", 1, [1])

    def test_each_goes_ahead_of_what_comes_behind(self):
        # What is wrong with a text, in the order in which it is refused: many ways, no way, no wish, no net, no text.
        rows = product((0, 1), repeat=5)
        for many, lost, no_wish, no_net, no_text in rows:
            text = "places 3" + "; road 0 1 1 1" * (11 if many else 2)
            text += "; road 0 7 1 1" * no_net + "; wish 0 1 1" + "; wish 1 2 1" * lost + "; bus 0 1 0" * no_wish
            text += "; lane 0 1 1 1" * no_text
            due = [NoText] * no_text + [NoNet] * no_net + [NoWish] * no_wish + [NoWay] * lost + [TooMany] * many
            self.check_refused(text, due[0] if due else None)

    def test_put_right(self):
        self.check_no_text("places 2; road 0 1 1 2/4; wish 0 1 1", 1)
        self.assertEqual(read_net("places 2; road 0 1 1 1/2; wish 0 1 1")[0][1], [(0, 1, ONE, (1, 2), False)])


class BelongingTest(unittest.TestCase):
    """[2]: what is handed over stays as it was, and what is given belongs to the caller."""

    def test_what_is_handed_over_stays(self):
        net, wishes = copy.deepcopy((NET, WISHES))
        net_text(net, wishes)
        self.assertEqual((net, wishes), (NET, WISHES))

    def test_the_same_question_twice(self):
        self.assertEqual(read_net(TEXT), read_net(TEXT))
        self.assertEqual(net_text(NET, WISHES), net_text(*copy.deepcopy((NET, WISHES))))

    def test_changing_what_was_told_changes_nothing_else(self):
        first = read_net(TEXT)
        second = read_net(TEXT)
        first[0][1].clear()
        first[1].append(None)
        self.assertEqual(second, (NET, WISHES))
        self.assertEqual(read_net(TEXT), (NET, WISHES))


if __name__ == "__main__":
    unittest.main()
