"""Texts that are changed as little as possible until a way turns them into a wanted text."""

from turnedends.aims import AimWalk
from turnedends.changes import ChangeWalk, are_floors, cheapest_text, distance_between
from turnedends.errors import BadText, BadWanted
from turnedends.kinds import check_kind, fits, is_text
from turnedends.walks import costs_to_end, is_closed, search
from turnedends.ways import check_way, turn

MOST_SIGNS = 12


def _is_short(text):
    """Returns whether text is a text of at most twelve signs."""
    return is_text(text) and len(text) <= MOST_SIGNS


def _check_short(text):
    if not _is_short(text):
        raise BadText("a text that is changed has at most twelve signs")


def _check(way, kind, text, wanted):
    check_way(way)
    check_kind(kind)
    _check_short(text)
    if not _is_short(wanted):
        raise BadWanted("a wanted text has at most twelve signs")


class Fitted:
    """Shows by a text that it becomes the wanted one, and by floors that no other one that does is less far away."""

    def __init__(self, text, floors):
        self.text = text
        self.floors = {node: floors[node] for node in floors}

    def __eq__(self, other):
        return isinstance(other, Fitted) and self.text == other.text and self.floors == other.floors

    def shows(self, way, kind, text, wanted):
        """Returns whether the text becomes the wanted one, and is as far from the other one as the floors show."""
        _check(way, kind, text, wanted)
        if not is_text(self.text) or not fits(self.text, kind) or turn(way, self.text) != wanted:
            return False
        return are_floors(ChangeWalk(way, kind, text, wanted), self.floors, distance_between(text, self.text))


class Unfit:
    """Shows by places that no text of the kind becomes the wanted one."""

    def __init__(self, places):
        self.places = list(places)

    def __eq__(self, other):
        return isinstance(other, Unfit) and self.places == other.places

    def shows(self, way, kind, text, wanted):
        """Returns whether all behind fine signs are there, and no text can be over at any of them."""
        _check(way, kind, text, wanted)
        return is_closed(AimWalk(way, kind, wanted), self.places)


def distance(text, other):
    """Returns the least number of signs put in, taken away or made other ones by which a text becomes another one."""
    _check_short(text)
    _check_short(other)
    return distance_between(text, other)


def fit(way, kind, text, wanted):
    """Returns a Fitted, or an Unfit if no text of the kind becomes the wanted one."""
    _check(way, kind, text, wanted)
    walk = ChangeWalk(way, kind, text, wanted)
    costs = costs_to_end(walk)
    total = costs[walk.first()]
    if total is None:
        places, _ = search(AimWalk(way, kind, wanted))
        return Unfit(places)
    # From some nodes, all ends are farther away than from the first one, or there are none: nothing more need be shown.
    floors = {node: total if cost is None else min(cost, total) for node, cost in costs.items()}
    return Fitted(cheapest_text(walk, costs), floors)


def least_change(way, kind, text, wanted):
    """Returns the distance of the text of a Fitted from the one that is changed, None for an Unfit."""
    found = fit(way, kind, text, wanted)
    return distance_between(text, found.text) if isinstance(found, Fitted) else None
