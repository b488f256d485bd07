"""All texts of a kind that a way turns into a text."""

from turnedends.aims import AimWalk
from turnedends.errors import TooMany
from turnedends.kinds import check_kind, check_text
from turnedends.ways import check_way

MOST_SOURCES = 200


def _nodes_ahead(walk):
    """Returns a dict from all nodes that come about to the lists of those from which a sign leads there."""
    found = {walk.first(): []}
    waiting = [walk.first()]
    while waiting:
        node = waiting.pop()
        for _, behind in walk.moves(node):
            if behind not in found:
                found[behind] = []
                waiting.append(behind)
            found[behind].append(node)
    return found


def _leading_on(walk):
    """Returns a dict of all nodes from which a text can go on to its end."""
    ahead = _nodes_ahead(walk)
    found = {node: True for node in ahead if walk.is_end(node)}
    waiting = list(found)
    while waiting:
        node = waiting.pop()
        for before in ahead[node]:
            if before not in found:
                found[before] = True
                waiting.append(before)
    return found


def sources(way, text, kind):
    """Returns the list of all sources of a text, in order."""
    check_way(way)
    check_text(text)
    check_kind(kind)
    walk = AimWalk(way, kind, text)
    leading = _leading_on(walk)
    found = []
    level = [(walk.first(), "")] if walk.first() in leading else []
    while level:
        # Each text of the level goes on to a source at least, and none of them to the same one as another.
        if len(found) + len(level) > MOST_SOURCES:
            raise TooMany("a text has more than 200 sources")
        found += [source for node, source in level if walk.is_end(node)]
        level = [(behind, source + sign) for node, source in level for sign, behind in walk.moves(node)
                 if behind in leading]
    return found


def first_source(way, text, kind):
    """Returns the first source of a text, None if there is none."""
    found = sources(way, text, kind)
    return found[0] if found else None
