"""Whether two ways turn all texts of a kind alike."""

from turnedends.kinds import check_kind
from turnedends.rows import are_rows, find_rows, is_parting
from turnedends.ways import check_way


def _check(one, other, kind):
    check_way(one)
    check_way(other)
    check_kind(kind)


class Alike:
    """Shows by rows that two ways are alike."""

    def __init__(self, rows):
        self.rows = list(rows)

    def __eq__(self, other):
        return isinstance(other, Alike) and self.rows == other.rows

    def shows(self, one, other, kind):
        """Returns whether the rows are even, the first one is among them, and all behind each of them are."""
        _check(one, other, kind)
        return are_rows(one, other, kind, self.rows)


class Parted:
    """Shows by a text that two ways are not alike."""

    def __init__(self, text):
        self.text = text

    def __eq__(self, other):
        return isinstance(other, Parted) and self.text == other.text

    def shows(self, one, other, kind):
        """Returns whether the text is one of the kind that both ways do not turn into the same."""
        _check(one, other, kind)
        return is_parting(one, other, kind, self.text)


def compare(one, other, kind):
    """Returns an Alike, or a Parted with a shortest text."""
    _check(one, other, kind)
    rows, text = find_rows(one, other, kind)
    return Alike(rows) if text is None else Parted(text)


def are_alike(one, other, kind):
    """Returns whether two ways turn each text of a kind into the same one."""
    return isinstance(compare(one, other, kind), Alike)


def first_parting(one, other, kind):
    """Returns the least length of a text that both ways do not turn into the same, None if they are alike."""
    found = compare(one, other, kind)
    return len(found.text) if isinstance(found, Parted) else None


def returns(way, kind):
    """Returns whether a way turns each text of a kind into itself."""
    return are_alike(way, (), kind)
