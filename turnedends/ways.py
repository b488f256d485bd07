"""Conversions of ends of lines, ways of them, and reading a text sign by sign."""

from turnedends.errors import BadSign, BadStanding, BadWay
from turnedends.kinds import SIGNS, check_text

CONVERSIONS = ("all", "both", "care", "lone", "lones", "pairs")
LONGEST = 6

# What is replaced by what, one behind the other; each x stands for a pair of r and n meanwhile.
_REPLACED = {
    "all": (("n", "rn"),),
    "both": (("rn", "n"), ("r", "n")),
    "care": (("rn", "n"), ("n", "rn")),
    "lone": (("n", "r"),),
    "lones": (("rn", "x"), ("r", "n"), ("x", "rn")),
    "pairs": (("rn", "n"),),
}
# What becomes of an r that is held back: ahead of an n, and otherwise.
_HELD = {"both": ("", "n"), "lones": ("r", "n"), "pairs": ("", "r")}
# What becomes of an n by the conversions that neither hold back nor remember.
_PLAIN = {"all": "rn", "lone": "r"}


def is_conversion(word):
    """Returns whether word is one of the six conversions."""
    # Asked first for a string, for other objects may call themselves equal to a word.
    return isinstance(word, str) and word in CONVERSIONS


def is_way(way):
    """Returns whether way is a tuple of at most six conversions."""
    return isinstance(way, tuple) and len(way) <= LONGEST and all([is_conversion(word) for word in way])


def check_way(way):
    """Raises BadWay unless way is a tuple of at most six conversions."""
    if not is_way(way):
        raise BadWay("a way is a tuple of at most six conversions")


def is_standing(way, standing):
    """Returns whether standing is one of a way of any length."""
    if not isinstance(standing, tuple) or len(standing) != len(way):
        return False
    return all([isinstance(flag, bool) and not (flag and word in _PLAIN) for word, flag in zip(way, standing)])


def check_standing(way, standing):
    """Raises BadStanding unless standing is one of the way, which is checked already."""
    if not is_standing(way, standing):
        raise BadStanding("a standing has a boolean for each conversion, False where nothing is held or remembered")


def turn(way, text):
    """Returns what `turned` does, of a way of any length, without checks."""
    for word in way:
        for old, new in _REPLACED[word]:
            text = text.replace(old, new)
    return text


def turned(way, text):
    """Returns a text turned by a way."""
    check_way(way)
    check_text(text)
    return turn(way, text)


def _read_one(word, flag, sign):
    """Returns the boolean of a conversion behind a sign, and what it gives out by it."""
    if word in _PLAIN:
        return False, _PLAIN[word] if sign == "n" else sign
    if word == "care":
        return sign == "r", "rn" if sign == "n" and not flag else sign
    ahead_of_n, otherwise = _HELD[word]
    held = ""
    if flag:
        held = ahead_of_n if sign == "n" else otherwise
    return sign == "r", held if sign == "r" else held + sign


def _read_all(word, flag, text):
    """Returns the boolean of a conversion behind a text, and what it gives out by it."""
    given = []
    for sign in text:
        flag, out = _read_one(word, flag, sign)
        given.append(out)
    return flag, "".join(given)


def step(way, standing, sign):
    """Returns what `read` does, of a way of any length, without checks."""
    behind = []
    text = sign
    for word, flag in zip(way, standing):
        flag_behind, text = _read_all(word, flag, text)
        behind.append(flag_behind)
    return tuple(behind), text


def ending(way, standing):
    """Returns what `at_end` does, of a way of any length, without checks."""
    text = ""
    for word, flag in zip(way, standing):
        flag_behind, text = _read_all(word, flag, text)
        if flag_behind and word in _HELD:
            text = text + _HELD[word][1]
    return text


def starting(way):
    """Returns what `first_standing` does, of a way of any length, without checks."""
    return (False,) * len(way)


def first_standing(way):
    """Returns the standing in which nothing has been read."""
    check_way(way)
    return starting(way)


def read(way, standing, sign):
    """Returns the standing behind a sign, and the text that is given out by it."""
    check_way(way)
    check_standing(way, standing)
    if not isinstance(sign, str) or sign not in SIGNS:
        raise BadSign("a sign is a, n or r")
    return step(way, standing, sign)


def at_end(way, standing):
    """Returns the text that is given out at the end."""
    check_way(way)
    check_standing(way, standing)
    return ending(way, standing)


def all_standings(way):
    """Returns the list of all standings that come about, each once."""
    first = first_standing(way)
    found = {first: True}
    waiting = [first]
    while waiting:
        standing = waiting.pop()
        for sign in SIGNS:
            behind, _ = step(way, standing, sign)
            if behind not in found:
                found[behind] = True
                waiting.append(behind)
    return list(found)
