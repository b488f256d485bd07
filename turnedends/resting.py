"""How many rounds of a way it takes until one more makes no difference to any text of a kind."""

from turnedends.checks import is_within
from turnedends.errors import BadLimit, BadRounds
from turnedends.kinds import check_kind, check_text
from turnedends.rows import are_rows, find_rows, is_parting
from turnedends.ways import check_way, turn

MOST_ROUNDS = 9
GREATEST_LIMIT = 4


def _check(way, kind, limit):
    check_way(way)
    check_kind(kind)
    if not is_within(limit, 0, GREATEST_LIMIT):
        raise BadLimit("a limit is an integer from 0 to 4")


def _are_partings(way, kind, texts):
    """Returns whether one more round makes a difference to each text, behind as many rounds as its index."""
    return all([is_parting(way * k, way * (k + 1), kind, text) for k, text in enumerate(texts)])


class Rests:
    """Shows by rows that a way rests behind so many rounds, and by texts that it does not behind fewer."""

    def __init__(self, number, rows, texts):
        self.number = number
        self.rows = list(rows)
        self.texts = list(texts)

    def __eq__(self, other):
        if not isinstance(other, Rests):
            return False
        return self.number == other.number and self.rows == other.rows and self.texts == other.texts

    def shows(self, way, kind, limit):
        """Returns whether the number is the least one, as rows and texts show."""
        _check(way, kind, limit)
        number = self.number
        if not is_within(number, 0, limit) or len(self.texts) != number:
            return False
        return _are_partings(way, kind, self.texts) and are_rows(way * number, way * (number + 1), kind, self.rows)


class Restless:
    """Shows by texts that a way does not rest behind any number of rounds up to a limit."""

    def __init__(self, texts):
        self.texts = list(texts)

    def __eq__(self, other):
        return isinstance(other, Restless) and self.texts == other.texts

    def shows(self, way, kind, limit):
        """Returns whether there is a text for each number of rounds up to the limit."""
        _check(way, kind, limit)
        return len(self.texts) == limit + 1 and _are_partings(way, kind, self.texts)


def rounds(way, text, many):
    """Returns the list of the texts behind each of so many rounds."""
    check_way(way)
    check_text(text)
    if not is_within(many, 0, MOST_ROUNDS):
        raise BadRounds("a number of rounds is an integer from 0 to 9")
    found = []
    for _ in range(many):
        text = turn(way, text)
        found.append(text)
    return found


def rest(way, kind, limit):
    """Returns a Rests, or a Restless if the way does not rest behind any number of rounds up to the limit."""
    _check(way, kind, limit)
    texts = []
    for number in range(limit + 1):
        rows, text = find_rows(way * number, way * (number + 1), kind)
        if text is None:
            return Rests(number, rows, texts)
        texts.append(text)
    return Restless(texts)


def least_rounds(way, kind, limit):
    """Returns the least number of rounds behind which a way rests, None if it is not within the limit."""
    found = rest(way, kind, limit)
    return found.number if isinstance(found, Rests) else None
