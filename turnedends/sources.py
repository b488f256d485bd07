"""All texts of a kind that a way turns into a text."""

from turnedends.aims import AimWalk
from turnedends.errors import TooMany
from turnedends.kinds import check_kind, check_text
from turnedends.walks import costs_to_end
from turnedends.ways import check_way

MOST_SOURCES = 200


def sources(way, text, kind):
    """Returns the list of all sources of a text, in order."""
    check_way(way)
    check_text(text)
    check_kind(kind)
    walk = AimWalk(way, kind, text)
    costs = costs_to_end(walk)
    found = []
    level = [] if costs[walk.first()] is None else [(walk.first(), "")]
    while level:
        # Each text of the level goes on to a source at least, and none of them to the same one as another.
        if len(found) + len(level) > MOST_SOURCES:
            raise TooMany("a text has more than 200 sources")
        found += [source for node, source in level if walk.is_end(node)]
        level = [(behind, source + sign) for node, source in level for behind, _, sign in walk.steps(node)
                 if costs[behind] is not None]
    return found


def first_source(way, text, kind):
    """Returns the first source of a text, None if there is none."""
    found = sources(way, text, kind)
    return found[0] if found else None
