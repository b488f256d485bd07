"""Who reads texts of a kind sign by sign, as a way turns them, and the places where such a reader can be."""

from turnedends.kinds import coming, is_half
from turnedends.ways import ending, is_standing, starting, step


def is_place(way, place):
    """Returns whether place is a pair of a standing of the way and a boolean."""
    if not isinstance(place, tuple) or len(place) != 2:
        return False
    return is_standing(way, place[0]) and isinstance(place[1], bool)


class Reader:
    """What a way does with the texts of a kind, place by place."""

    def __init__(self, way, kind):
        self.way = way
        self.kind = kind
        # A place is asked for again and again, and it takes a while to tell what is given out there.
        self._known_moves = {}
        self._known_ends = {}

    def first(self):
        return starting(self.way), False

    def moves(self, place):
        """Returns for each sign that can come at a place: the sign, the place behind it, and what it gives out."""
        if place not in self._known_moves:
            self._known_moves[place] = [self._move(place, sign) for sign in coming(self.kind, place[1])]
        return self._known_moves[place]

    def _move(self, place, sign):
        standing, given = step(self.way, place[0], sign)
        return sign, (standing, is_half(self.kind, sign)), given

    def end(self, place):
        """Returns what is given out if the text is over at a place, None if it cannot be over there."""
        if place not in self._known_ends:
            self._known_ends[place] = None if place[1] else ending(self.way, place[0])
        return self._known_ends[place]

    def reached(self):
        """Returns a dict from all places that come about to a shortest text behind which each of them does."""
        found = {self.first(): ""}
        level = [self.first()]
        while level:
            longer = []
            for place in level:
                for sign, behind, _ in self.moves(place):
                    if behind not in found:
                        found[behind] = found[place] + sign
                        longer.append(behind)
            level = longer
        return found
