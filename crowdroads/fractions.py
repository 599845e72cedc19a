"""Exact fractions, written (top, bottom) in one way alone."""

from crowdroads.errors import NoNumber

NOUGHT = (0, 1)


def is_whole(thing):
    # Python counts True and False among its whole numbers; here they are truths alone.
    return isinstance(thing, int) and not isinstance(thing, bool)


def common_divisor(one, other):
    """The greatest common divisor of two numbers from nought on that are not both nought."""
    while other != 0:
        left = one % other
        one = other
        other = left
    return one


def lowest(top, bottom):
    divisor = common_divisor(abs(top), abs(bottom))
    # A divisor below nought turns both signs, which brings the bottom above nought.
    if bottom < 0:
        divisor = -divisor
    return (top // divisor, bottom // divisor)


def fraction(top, bottom):
    if not is_whole(top) or not is_whole(bottom):
        raise NoNumber("a fraction is made of two whole numbers")
    if bottom == 0:
        raise NoNumber("nothing can be parted by nought")
    return lowest(top, bottom)


def is_fraction(thing):
    if not isinstance(thing, tuple) or len(thing) != 2:
        return False
    top = thing[0]
    bottom = thing[1]
    if not is_whole(top) or not is_whole(bottom):
        return False
    return bottom > 0 and common_divisor(abs(top), bottom) == 1


def is_from_nought(thing):
    return is_fraction(thing) and thing[0] >= 0


def is_above_nought(thing):
    return is_fraction(thing) and thing[0] > 0


def sum_of(one, other):
    return lowest(one[0] * other[1] + other[0] * one[1], one[1] * other[1])


def rest_of(one, other):
    return lowest(one[0] * other[1] - other[0] * one[1], one[1] * other[1])


def product_of(one, other):
    return lowest(one[0] * other[0], one[1] * other[1])


def part_of(one, other):
    if other == NOUGHT:
        raise NoNumber("nothing can be parted by nought")
    return lowest(one[0] * other[1], one[1] * other[0])


def is_less(one, other):
    return one[0] * other[1] < other[0] * one[1]


def sum_of_all(amounts):
    whole = NOUGHT
    for amount in amounts:
        whole = sum_of(whole, amount)
    return whole


def least_of(amounts):
    """The least of one or more fractions."""
    least = amounts[0]
    for amount in amounts:
        if is_less(amount, least):
            least = amount
    return least
