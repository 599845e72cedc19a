"""The refusals of this package."""


class RoadError(ValueError):
    """Any refusal."""


class NoNumber(RoadError):
    """What was handed over is no number, or can't be reckoned with so."""


class NoNet(RoadError):
    """What was handed over makes no net."""


class NoWish(RoadError):
    """What was handed over makes no wishes, or no travellers."""


class NoWay(RoadError):
    """A wish, or a traveller, has no way: its number, and the places that are reached."""

    def __init__(self, wish, reached):
        self.wish = wish
        # A copy, so that no list of the one who raises it is shared with the one who takes it.
        self.reached = list(reached)


class TooMany(RoadError):
    """There are more ways, or more changes, than are gone through."""


class NoShare(RoadError):
    """What was handed over is no share, or no flow."""


class NoStep(RoadError):
    """What was handed over makes no steps."""


class NoSuch(RoadError):
    """There is nothing of that number."""


class NoText(RoadError):
    """A text doesn't tell a net and wishes: the number of its first part that is not as it should be."""

    def __init__(self, part):
        self.part = part
