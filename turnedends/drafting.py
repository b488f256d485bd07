"""The cheapest way that does the same as a wanted one."""

from turnedends.checks import is_within
from turnedends.errors import BadPrices
from turnedends.kinds import check_kind
from turnedends.rows import are_rows, find_rows, is_parting
from turnedends.ways import check_way, is_conversion

LONGEST_DRAFT = 3
HIGHEST_PRICE = 9


def _check_prices(prices):
    """Raises BadPrices unless prices are a dict from one to six conversions to integers from 1 to 9."""
    if not isinstance(prices, dict) or len(prices) == 0:
        raise BadPrices("prices are a dict from one to six conversions")
    for word, price in prices.items():
        if not is_conversion(word) or not is_within(price, 1, HIGHEST_PRICE):
            raise BadPrices("each conversion has an integer from 1 to 9 as its price")


def _check(way, prices, kind):
    check_way(way)
    _check_prices(prices)
    check_kind(kind)


def _cost(draft, prices):
    """Returns what a draft costs, each conversion as often as it is in it."""
    return sum([prices[word] for word in draft])


def _all_drafts(prices):
    """Returns the list of all drafts, in order, without checks."""
    found = [()]
    longest = [()]
    for _ in range(LONGEST_DRAFT):
        longest = [draft + (word,) for draft in longest for word in prices]
        found = found + longest
    return sorted(found, key=lambda draft: (_cost(draft, prices), len(draft), draft))


def _is_draft(draft, prices):
    """Returns whether draft is a way of at most three conversions, all of which have prices."""
    if not isinstance(draft, tuple) or len(draft) > LONGEST_DRAFT:
        return False
    return all([is_conversion(word) and word in prices for word in draft])


def _are_partings(partings, expected, way, kind):
    """Returns whether partings show of all expected drafts, and of no other ones, that they are not good."""
    if len(partings) != len(expected):
        return False
    return all([draft in partings and is_parting(draft, way, kind, partings[draft]) for draft in expected])


class Cheapest:
    """Shows by rows that a draft is good, and by partings that none is that costs less."""

    def __init__(self, draft, rows, partings):
        self.draft = draft
        self.rows = list(rows)
        self.partings = {key: partings[key] for key in partings}

    def __eq__(self, other):
        if not isinstance(other, Cheapest):
            return False
        return self.draft == other.draft and self.rows == other.rows and self.partings == other.partings

    def shows(self, way, prices, kind):
        """Returns whether the draft is good, as the rows show, and none that costs less, as the partings show."""
        _check(way, prices, kind)
        if not _is_draft(self.draft, prices):
            return False
        price = _cost(self.draft, prices)
        cheaper = [draft for draft in _all_drafts(prices) if _cost(draft, prices) < price]
        return _are_partings(self.partings, cheaper, way, kind) and are_rows(self.draft, way, kind, self.rows)


class NoDraft:
    """Shows by partings that no draft is good."""

    def __init__(self, partings):
        self.partings = {key: partings[key] for key in partings}

    def __eq__(self, other):
        return isinstance(other, NoDraft) and self.partings == other.partings

    def shows(self, way, prices, kind):
        """Returns whether the partings are of all drafts, and each of them parts its draft."""
        _check(way, prices, kind)
        return _are_partings(self.partings, _all_drafts(prices), way, kind)


def drafts(prices):
    """Returns the list of all drafts, in order."""
    _check_prices(prices)
    return _all_drafts(prices)


def cheapest(way, prices, kind):
    """Returns a Cheapest with the first good draft, or a NoDraft."""
    _check(way, prices, kind)
    partings = {}
    for draft in _all_drafts(prices):
        rows, text = find_rows(draft, way, kind)
        if text is None:
            price = _cost(draft, prices)
            # Drafts that cost as much may have been asked ahead of this one.
            return Cheapest(draft, rows, {key: partings[key] for key in partings if _cost(key, prices) < price})
        partings[draft] = text
    return NoDraft(partings)


def least_price(way, prices, kind):
    """Returns what the cheapest good draft costs, None if no draft is good."""
    found = cheapest(way, prices, kind)
    return _cost(found.draft, prices) if isinstance(found, Cheapest) else None
