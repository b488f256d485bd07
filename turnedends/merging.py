"""Whether a way turns two different texts of a kind into the same one."""

from turnedends.chases import are_chases, find_chases
from turnedends.kinds import check_kind, fits, is_text
from turnedends.readers import Reader
from turnedends.ways import check_way, turn


def _check(way, kind):
    check_way(way)
    check_kind(kind)


class Distinct:
    """Shows by chases that a way does not merge a kind."""

    def __init__(self, chases):
        self.chases = list(chases)

    def __eq__(self, other):
        return isinstance(other, Distinct) and self.chases == other.chases

    def shows(self, way, kind):
        """Returns whether all chases that begin are there, and all as which they go on, and none is caught."""
        _check(way, kind)
        return are_chases(Reader(way, kind), self.chases)


class Merged:
    """Shows by two texts that a way merges a kind."""

    def __init__(self, one, other):
        self.one = one
        self.other = other

    def __eq__(self, other):
        return isinstance(other, Merged) and self.one == other.one and self.other == other.other

    def shows(self, way, kind):
        """Returns whether both are different texts of the kind that are turned into the same one."""
        _check(way, kind)
        if not all([is_text(text) and fits(text, kind) for text in (self.one, self.other)]):
            return False
        return self.one != self.other and turn(way, self.one) == turn(way, self.other)


def merge(way, kind):
    """Returns a Distinct, or a Merged with two texts that have together the fewest signs."""
    _check(way, kind)
    chases, pair = find_chases(Reader(way, kind))
    return Distinct(chases) if pair is None else Merged(pair[0], pair[1])


def does_merge(way, kind):
    """Returns whether a way turns two different texts of a kind into the same one."""
    return isinstance(merge(way, kind), Merged)


def least_merging(way, kind):
    """Returns the least number of signs of two texts together that are turned into the same one, None if none are."""
    found = merge(way, kind)
    return len(found.one) + len(found.other) if isinstance(found, Merged) else None
