"""Ways that are written, each in a line of its own."""

from turnedends.errors import BadLines, BadWay
from turnedends.ways import check_way, is_way

FIRST_WORD = "way"


def ways_text(ways):
    """Returns what is written of a list or tuple of ways."""
    if not isinstance(ways, (list, tuple)):
        raise BadWay("ways are a list or a tuple")
    for way in ways:
        check_way(way)
    return "".join([" ".join([FIRST_WORD, *way]) + "\n" for way in ways])


def _read_line(line, row):
    """Returns the way that is written in a line."""
    words = line.split(" ")
    way = tuple(words[1:])
    if words[0] != FIRST_WORD or not is_way(way):
        raise BadLines(row)
    return way


def read_ways(lines):
    """Returns the list of the ways that are written."""
    if not isinstance(lines, str):
        raise BadLines(0)
    rows = lines.split("\n")
    found = [_read_line(line, row) for row, line in enumerate(rows[:-1])]
    # What follows the last line feed is no line.
    if rows[-1] != "":
        raise BadLines(len(found))
    return found
