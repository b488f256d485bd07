"""Reading texts of a kind only as long as what a way gives out by them is what a wanted text begins with."""

from turnedends.checks import is_within
from turnedends.readers import Reader, is_place


class AimWalk:
    """The walk over pairs of a place, and of the number of signs of the wanted text that are given out already.

    It is not fine where a text can be over that is turned into the wanted one.
    """

    def __init__(self, way, kind, wanted):
        self.reader = Reader(way, kind)
        self.wanted = wanted

    def first(self):
        return self.reader.first(), 0

    def steps(self, node):
        """Returns for each sign that is fine at a node: the node behind it, that it costs one, and the sign."""
        place, done = node
        return [((behind, done + len(given)), 1, sign) for sign, behind, given in self.reader.moves(place)
                if self.wanted.startswith(given, done)]

    def signs(self, node):
        return [sign for _, _, sign in self.steps(node)]

    def behind(self, node, sign):
        return {word: behind for behind, _, word in self.steps(node)}[sign]

    def is_end(self, node):
        """Returns whether the text can be over at a node, and what is given out then is all that is wanted yet."""
        place, done = node
        end = self.reader.end(place)
        return end is not None and done + len(end) == len(self.wanted) and self.wanted.endswith(end)

    def is_fine(self, node):
        return not self.is_end(node)

    def is_node(self, node):
        if not isinstance(node, tuple) or len(node) != 2:
            return False
        return is_place(self.reader.way, node[0]) and is_within(node[1], 0, len(self.wanted))
