"""Which conversions can be left out of a way without making a difference to any text of a kind."""

from turnedends.checks import is_within
from turnedends.errors import BadOffers
from turnedends.kinds import check_kind
from turnedends.rows import are_rows, find_rows, is_parting
from turnedends.ways import check_way

MOST_OFFERS = 4


def _are_ascending(way, indices):
    """Returns whether indices are an ascending tuple of indices of conversions of a way."""
    if not isinstance(indices, tuple) or not all([is_within(index, 0, len(way) - 1) for index in indices]):
        return False
    return all([low < high for low, high in zip(indices, indices[1:])])


def _check_offers(way, offers):
    if not _are_ascending(way, offers) or not 1 <= len(offers) <= MOST_OFFERS:
        raise BadOffers("offers are an ascending tuple of one to four indices of conversions")


def _check(way, offers, kind):
    check_way(way)
    _check_offers(way, offers)
    check_kind(kind)


def _all_lots(offers):
    """Returns the list of all lots, in order, without checks."""
    found = [()]
    for index in offers:
        found = found + [lot + (index,) for lot in found]
    return sorted(found, key=lambda lot: (len(lot), lot))


def _rest(way, lot):
    """Returns what `without` does, without checks."""
    return tuple([word for index, word in enumerate(way) if index not in lot])


def _is_within(lot, other):
    """Returns whether another lot has all indices of a lot."""
    return all([index in other for index in lot])


def _in_none(lot, others):
    """Returns whether a lot is within none of the others."""
    return not any([_is_within(lot, other) for other in others])


class Spared:
    """Shows by rows which lots are good, and by texts that all others are not that are within none of these."""

    def __init__(self, good, fails):
        self.good = {lot: list(good[lot]) for lot in good}
        self.fails = {lot: fails[lot] for lot in fails}

    def __eq__(self, other):
        return isinstance(other, Spared) and self.good == other.good and self.fails == other.fails

    def shows(self, way, offers, kind):
        """Returns whether the good lots are exactly the greatest ones, as the rows and the texts show."""
        _check(way, offers, kind)
        return self._are_lots(way, offers) and self._is_shown(way, kind)

    def _are_lots(self, way, offers):
        """Returns whether no good lot is within another one, and exactly those are to fail that are within none."""
        good = list(self.good)
        if not all([_are_ascending(way, lot) and _is_within(lot, offers) for lot in good + list(self.fails)]):
            return False
        if not all([_in_none(lot, [other for other in good if other != lot]) for lot in good]):
            return False
        failing = [lot for lot in _all_lots(offers) if _in_none(lot, good)]
        return len(failing) == len(self.fails) and all([lot in self.fails for lot in failing])

    def _is_shown(self, way, kind):
        if not all([are_rows(way, _rest(way, lot), kind, self.good[lot]) for lot in self.good]):
            return False
        return all([is_parting(way, _rest(way, lot), kind, self.fails[lot]) for lot in self.fails])


def lots(way, offers):
    """Returns the list of all lots, in order."""
    check_way(way)
    _check_offers(way, offers)
    return _all_lots(offers)


def without(way, lot):
    """Returns the way without the conversions at the indices of a lot."""
    check_way(way)
    if not _are_ascending(way, lot):
        raise BadOffers("a lot is an ascending tuple of indices of conversions")
    return _rest(way, lot)


def spare(way, offers, kind):
    """Returns a Spared with all greatest lots."""
    _check(way, offers, kind)
    everything = _all_lots(offers)
    good, fails = {}, {}
    # The longest ones first: a good lot is a greatest one if it is within none of those that are found already.
    for lot in reversed(everything):
        if _in_none(lot, good):
            rows, text = find_rows(way, _rest(way, lot), kind)
            if text is None:
                good[lot] = rows
            else:
                fails[lot] = text
    return Spared({lot: good[lot] for lot in everything if lot in good},
                  {lot: fails[lot] for lot in everything if lot in fails})


def greatest_lots(way, offers, kind):
    """Returns the list of all greatest lots, in order."""
    return list(spare(way, offers, kind).good)
