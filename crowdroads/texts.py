"""Texts that tell a net and wishes, read and written."""

from crowdroads.errors import NoText
from crowdroads.fractions import is_fraction
from crowdroads.nets import made_net
from crowdroads.wishes import made_wishes

FIGURES = "0123456789"
MOST_FIGURES = 18


def figure_of(word):
    """The number that a word of one figure tells; None of another word."""
    if len(word) != 1 or word not in FIGURES:
        return None
    return int(word)


def is_number_word(word):
    if not 1 <= len(word) <= MOST_FIGURES:
        return False
    if word[0] == "0" and word != "0":
        return False
    return all([sign in FIGURES for sign in word])


def amount_of(word):
    """The fraction that a word tells; None where it tells none."""
    halves = word.split("/")
    if len(halves) > 2 or not all([is_number_word(half) for half in halves]):
        return None
    if len(halves) == 1:
        return (int(word), 1)
    amount = (int(halves[0]), int(halves[1]))
    # Each amount is written in one way alone, so a whole number has no line.
    if amount[1] == 1 or not is_fraction(amount):
        return None
    return amount


def places_of(words):
    """How many places the words of a part tell; None where they don't."""
    if len(words) != 2 or words[0] != "places":
        return None
    return figure_of(words[1])


def road_of(words):
    """The road that the words of a part tell; None where they tell none."""
    if len(words) != 5 or words[0] not in ("road", "lane"):
        return None
    start = figure_of(words[1])
    end = figure_of(words[2])
    road = (start, end, amount_of(words[3]), amount_of(words[4]), words[0] == "lane")
    return None if None in road else road


def wish_of(words):
    """The wish that the words of a part tell; None where they tell none."""
    if len(words) != 4 or words[0] not in ("wish", "bus"):
        return None
    wish = (figure_of(words[1]), figure_of(words[2]), amount_of(words[3]), words[0] == "bus")
    return None if None in wish else wish


def things_told(parts):
    """A tuple: how many places, the roads and the wishes that parts tell, be they such or not."""
    many = places_of(parts[0].split(" "))
    if many is None:
        raise NoText(0)
    roads = []
    wishes = []
    for number, part in enumerate(parts[1:], start=1):
        words = part.split(" ")
        road = road_of(words)
        wish = wish_of(words)
        if road is not None and wishes == []:
            roads.append(road)
        elif wish is not None:
            wishes.append(wish)
        else:
            raise NoText(number)
    return (many, roads, wishes)


def read_net(text):
    things = things_told(text.split("; "))
    net = made_net(things[0], things[1])
    return (net, made_wishes(net, things[2]))


def amount_text(amount):
    top = amount[0]
    bottom = amount[1]
    return str(top) if bottom == 1 else f"{top}/{bottom}"


def road_text(road):
    head = "lane" if road[4] else "road"
    return " ".join([head, str(road[0]), str(road[1]), amount_text(road[2]), amount_text(road[3])])


def wish_text(wish):
    head = "bus" if wish[3] else "wish"
    return " ".join([head, str(wish[0]), str(wish[1]), amount_text(wish[2])])


def net_text(net, wishes):
    many = net[0]
    roads = [road_text(road) for road in net[1]]
    return "; ".join([f"places {many}"] + roads + [wish_text(wish) for wish in wishes])
