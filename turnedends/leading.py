"""Whether a way turns all texts of a kind into texts of another kind."""

from turnedends.kinds import check_kind, coming, fits, is_half, is_text, waits_behind
from turnedends.walks import is_closed, search
from turnedends.ways import check_way, ending, is_standing, starting, step, turn


def _check(way, kind, other):
    check_way(way)
    check_kind(kind)
    check_kind(other)


class PlaceWalk:
    """The walk over the places of a way that reads texts of a kind, and gives out texts of another one.

    Behind a text that has strayed there is a node as well, with None instead of the second boolean. It is no
    place; but as soon as the text is one of the kind, it is not fine.
    """

    def __init__(self, way, kind, other):
        self.way = way
        self.kind = kind
        self.other = other

    def first(self):
        return starting(self.way), False, False

    def signs(self, node):
        return coming(self.kind, node[1])

    def behind(self, node, sign):
        standing, given = step(self.way, node[0], sign)
        return standing, is_half(self.kind, sign), self.out_behind(node[2], given)

    def is_fine(self, node):
        standing, waits, out_waits = node
        return waits or self.out_behind(out_waits, ending(self.way, standing)) is False

    def is_node(self, node):
        if not isinstance(node, tuple) or len(node) != 3:
            return False
        return is_standing(self.way, node[0]) and isinstance(node[1], bool) and isinstance(node[2], bool)

    def out_behind(self, waits, given):
        """Returns the second boolean behind what is given out, None if it has strayed, ahead or by this."""
        return None if waits is None else waits_behind(self.other, waits, given)


class Leads:
    """Shows by places that a way leads a kind into another one."""

    def __init__(self, places):
        self.places = list(places)

    def __eq__(self, other):
        return isinstance(other, Leads) and self.places == other.places

    def shows(self, way, kind, other):
        """Returns whether the places are closed, and nothing strays at any of them."""
        _check(way, kind, other)
        return is_closed(PlaceWalk(way, kind, other), self.places)


class Strays:
    """Shows by a text that a way does not lead a kind into another one."""

    def __init__(self, text):
        self.text = text

    def __eq__(self, other):
        return isinstance(other, Strays) and self.text == other.text

    def shows(self, way, kind, other):
        """Returns whether the text is one of the kind that is not turned into one of the other kind."""
        _check(way, kind, other)
        return is_text(self.text) and fits(self.text, kind) and not fits(turn(way, self.text), other)


def lead(way, kind, other):
    """Returns a Leads, or a Strays with a shortest text."""
    _check(way, kind, other)
    places, text = search(PlaceWalk(way, kind, other))
    return Leads(places) if text is None else Strays(text)


def does_lead(way, kind, other):
    """Returns whether a way turns each text of a kind into one of the other kind."""
    return isinstance(lead(way, kind, other), Leads)


def first_stray(way, kind, other):
    """Returns the least length of a text that is not turned into one of the other kind, None if there is none."""
    found = lead(way, kind, other)
    return len(found.text) if isinstance(found, Strays) else None
