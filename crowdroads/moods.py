"""Moods: which way a traveller changes to, out of those by which it gains."""

from crowdroads.fractions import NOUGHT, is_less, least_of


class Keen:
    """Picks the greatest gain."""

    def pick(self, gains):
        best = 0
        for place, gain in enumerate(gains):
            if is_less(gains[best], gain):
                best = place
        return best


class Hasty(Keen):
    """Picks the first gain that is above nought."""

    def pick(self, gains):
        return [place for place, gain in enumerate(gains) if is_less(NOUGHT, gain)][0]


class Wary(Keen):
    """Picks the least gain that is above nought."""

    def pick(self, gains):
        return gains.index(least_of([gain for gain in gains if is_less(NOUGHT, gain)]))
