"""Changing a text sign by sign into one that a way turns into a wanted text."""

from turnedends.aims import AimWalk
from turnedends.checks import is_integer, is_within


def distance_between(text, other):
    """Returns what `distance` does, for texts of any lengths, without checks."""
    # How far all that was read of the text is from each beginning of the other one.
    row = list(range(len(other) + 1))
    for k, sign in enumerate(text):
        ahead = row
        row = [k + 1]
        for m, other_sign in enumerate(other):
            same = ahead[m] if sign == other_sign else ahead[m] + 1
            row.append(min(same, ahead[m + 1] + 1, row[m] + 1))
    return row[-1]


class ChangeWalk:
    """The walk over triples of how many signs of the text are done with, a place, and how many signs are given out.

    The place, and the signs of the wanted text that are given out, are those of the text that it is changed into.
    """

    def __init__(self, way, kind, text, wanted):
        self.aim = AimWalk(way, kind, wanted)
        self.text = text

    def first(self):
        place, done = self.aim.first()
        return 0, place, done

    def steps(self, node):
        """Returns the steps of putting a sign in, of taking the next one away, and of making it a fine one."""
        at, place, done = node
        fine = self.aim.steps((place, done))
        found = [((at, behind, done_behind), 1, sign) for (behind, done_behind), _, sign in fine]
        if at < len(self.text):
            found.append(((at + 1, place, done), 1, ""))
            for (behind, done_behind), _, sign in fine:
                found.append(((at + 1, behind, done_behind), 0 if sign == self.text[at] else 1, sign))
        return found

    def is_end(self, node):
        at, place, done = node
        return at == len(self.text) and self.aim.is_end((place, done))

    def is_node(self, node):
        if not isinstance(node, tuple) or len(node) != 3:
            return False
        return is_within(node[0], 0, len(self.text)) and self.aim.is_node(node[1:])


def cheapest_text(walk, costs):
    """Returns a text that is read by steps that cost together no more than there is to the end."""
    node = walk.first()
    text = ""
    while not walk.is_end(node):
        best = [(behind, sign) for behind, cost, sign in walk.steps(node)
                if costs[behind] is not None and costs[behind] + cost == costs[node]]
        node, sign = best[0]
        text = text + sign
    return text


def are_floors(walk, floors, total):
    """Returns whether floors show that the first node is as far from all ends as a total, and not less."""
    if not all([walk.is_node(node) and is_integer(floors[node]) and floors[node] >= 0 for node in floors]):
        return False
    if walk.first() not in floors or floors[walk.first()] != total:
        return False
    for node in floors:
        if walk.is_end(node) and floors[node] != 0:
            return False
        for behind, cost, _ in walk.steps(node):
            if behind not in floors or floors[behind] + cost < floors[node]:
                return False
    return True
