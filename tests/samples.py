"""Things that several tests hand over in the place of something else."""


class Odd:
    """Fails whoever compares it, measures it or asks whether it is true."""

    def __eq__(self, other):
        raise AssertionError("compared")

    def __lt__(self, other):
        raise AssertionError("compared")

    def __len__(self):
        raise AssertionError("measured")

    def __bool__(self):
        raise AssertionError("asked whether it is true")

    def __repr__(self):
        return "Odd()"


def strange_things():
    """Things that are no whole numbers, no fractions and no truths."""
    return [
        None, "", "1", "two", "1/2", "True", b"1", 1.0, 0.5, float("nan"), float("inf"), 1j,
        [], [1], [0, 1], [1, 2], [True], (), (1,), (True,), (1, 2, 3), {}, {1: 2}, {1},
        frozenset([1]), range(3), object(), Odd(), int, len,
    ]


def no_wholes():
    return strange_things() + [True, False, (0, 1), (1, 2), (-3, 2)]


def no_truths():
    return strange_things() + [0, 1, -1, 2, (0, 1), (1, 2), (True, False)]


def no_fractions():
    return strange_things() + [
        True, False, 0, 1, -1, 10 ** 59,
        (0,), (1, 2, 1), (0, 1, 0), ((1, 2),), ((1, 2), (1, 2)), ((1, 2), 1), (1, (1, 2)),
        (True, 1), (False, 1), (1, True), (0, True), (True, True), (True, 2),
        ("1", 2), (1, "2"), (1.0, 2), (1, 2.0), (None, 1), (1, None), ([1], 2), (1, [2]), (1, {}),
        (Odd(), 1), (1, Odd()),
        (1, 0), (0, 0), (-1, 0), (1, -1), (1, -2), (-1, -2), (0, -1),
        (2, 2), (2, 4), (-2, 4), (6, 4), (3, 9), (10 ** 59, 10), (5, 5),
        (0, 2), (0, 7), (0, 10 ** 59),
    ]


def whole(*numbers):
    """A list of whole numbers, written as fractions."""
    return [(number, 1) for number in numbers]


def changed(row, place, thing):
    """A list or a tuple with another thing at a place."""
    return row[:place] + type(row)([thing]) + row[place + 1:]


def lists_in(thing):
    """All lists that a thing holds, itself among them where it is one."""
    if not isinstance(thing, (list, tuple)):
        return []
    return [thing] * isinstance(thing, list) + [row for part in thing for row in lists_in(part)]


def error_of(deed):
    """The error that a deed ends with; None where it ends without one."""
    try:
        deed()
    except Exception as error:
        return error
    return None


def refusal_of(deed):
    """The class of the error that a deed ends with; None where it ends without one."""
    error = error_of(deed)
    return None if error is None else type(error)
