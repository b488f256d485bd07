"""Two ways of any lengths that read the same texts of a kind, side by side."""

from turnedends.kinds import coming, fits, is_half, is_text
from turnedends.walks import is_closed, search
from turnedends.ways import ending, is_standing, starting, step, turn


def without_common(first, second):
    """Returns two texts without what both begin with."""
    size = 0
    while size < len(first) and size < len(second) and first[size] == second[size]:
        size += 1
    return first[size:], second[size:]


class RowWalk:
    """The walk over the rows of two ways for a kind.

    Behind a text that is parted there is a node as well, with two texts that begin with different signs. It is
    no row; but as soon as the text is one of the kind, it is not fine, for it cannot be even.
    """

    def __init__(self, one, other, kind):
        self.one = one
        self.other = other
        self.kind = kind

    def first(self):
        return starting(self.one), starting(self.other), False, "", ""

    def signs(self, node):
        return coming(self.kind, node[2])

    def behind(self, node, sign):
        first, second, _, ahead, lag = node
        first_behind, given = step(self.one, first, sign)
        second_behind, other_given = step(self.other, second, sign)
        rests = without_common(ahead + given, lag + other_given)
        return first_behind, second_behind, is_half(self.kind, sign), rests[0], rests[1]

    def is_fine(self, node):
        first, second, waits, ahead, lag = node
        return waits or ahead + ending(self.one, first) == lag + ending(self.other, second)

    def is_node(self, node):
        if not isinstance(node, tuple) or len(node) != 5:
            return False
        first, second, waits, ahead, lag = node
        if not is_standing(self.one, first) or not is_standing(self.other, second):
            return False
        return isinstance(waits, bool) and is_text(ahead) and is_text(lag) and (ahead == "" or lag == "")


def find_rows(one, other, kind):
    """Returns the list of all rows and None, or None and a shortest text that both ways do not turn alike."""
    return search(RowWalk(one, other, kind))


def are_rows(one, other, kind, rows):
    """Returns whether rows show that both ways are alike for a kind."""
    return is_closed(RowWalk(one, other, kind), rows)


def is_parting(one, other, kind, text):
    """Returns whether text is a text of the kind that both ways do not turn into the same."""
    return is_text(text) and fits(text, kind) and turn(one, text) != turn(other, text)
