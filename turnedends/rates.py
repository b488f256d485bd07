"""How much texts of a kind grow or shrink at most for each sign, if they go on for ever."""

from turnedends.checks import is_integer
from turnedends.errors import BadFlag
from turnedends.kinds import check_kind, is_text
from turnedends.readers import Reader, is_place
from turnedends.rings import best_ring, rate_of, walked, weight
from turnedends.ways import check_way


def _check(way, kind, least):
    check_way(way)
    check_kind(kind)
    if not isinstance(least, bool):
        raise BadFlag("least is True or False")


class Swelling:
    """Shows by a ring that there is a rate, and by heights that none is beyond it."""

    def __init__(self, rate, ahead, ring, heights):
        self.rate = rate
        self.ahead = ahead
        self.ring = ring
        self.heights = {place: heights[place] for place in heights}

    def __eq__(self, other):
        if not isinstance(other, Swelling):
            return False
        same_ring = self.ahead == other.ahead and self.ring == other.ring
        return same_ring and self.rate == other.rate and self.heights == other.heights

    def shows(self, way, kind, *, least=False):
        """Returns whether the ring has the rate, and the heights fall at each sign by its weight at least."""
        _check(way, kind, least)
        reader = Reader(way, kind)
        return self._has_rate(reader) and self._is_closed(reader) and self._falls(reader, least)

    def _has_rate(self, reader):
        if not is_text(self.ahead) or not is_text(self.ring):
            return False
        found = walked(reader, reader.first(), self.ahead)
        if found is None or self.rate != rate_of(reader, found[0], self.ring):
            return False
        return isinstance(self.rate, tuple) and all([is_integer(number) for number in self.rate])

    def _is_closed(self, reader):
        """Returns whether the heights are those of places, of the first one among them, and of all behind them."""
        if not all([is_place(reader.way, place) and is_integer(self.heights[place]) for place in self.heights]):
            return False
        if reader.first() not in self.heights:
            return False
        return all([behind in self.heights for place in self.heights for _, behind, _ in reader.moves(place)])

    def _falls(self, reader, least):
        return all([self.heights[behind] + weight(self.rate, given, least) <= self.heights[place]
                    for place in self.heights for _, behind, given in reader.moves(place)])


def swell(way, kind, *, least=False):
    """Returns a Swelling with the greatest rate of a ring, or with the least one."""
    _check(way, kind, least)
    reader = Reader(way, kind)
    rate, place, ring, heights = best_ring(reader, least)
    return Swelling(rate, reader.reached()[place], ring, heights)


def greatest_rate(way, kind):
    """Returns the greatest rate of a ring."""
    return swell(way, kind).rate


def least_rate(way, kind):
    """Returns the least rate of a ring."""
    return swell(way, kind, least=True).rate
