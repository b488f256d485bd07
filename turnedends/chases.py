"""Two readers of different texts of a kind, of whom one catches up with what the other one has given out.

A chase is a quadruple of the places of both, None for one whose text is over, and of what each of them has given
out ahead of the other one.
"""

from turnedends.kinds import is_text
from turnedends.readers import is_place
from turnedends.rows import without_common


def _with_chase(sign, other_sign, chase):
    """Returns a list of what both read and the chase behind it; an empty one if both have given out what differs."""
    first, second, ahead, lag = chase
    ahead, lag = without_common(ahead, lag)
    return [] if ahead and lag else [(sign, other_sign, (first, second, ahead, lag))]


def begun(reader, place):
    """Returns the chases that begin at a place, each with the signs that both read, an empty one for who is over."""
    found = []
    moves = reader.moves(place)
    end = reader.end(place)
    for k, (sign, first, given) in enumerate(moves):
        for other_sign, second, other_given in moves[k + 1:]:
            found += _with_chase(sign, other_sign, (first, second, given, other_given))
        if end is not None:
            found += _with_chase(sign, "", (first, None, given, end))
    return found


def _steps(reader, place):
    """Returns what a reader can do: its moves, and that its text is over, with an empty sign and no place."""
    end = reader.end(place)
    return reader.moves(place) + ([] if end is None else [("", None, end)])


def gone_on(reader, chase):
    """Returns the chases as which a chase goes on, each with the signs that both read, empty for who reads none."""
    first, second, ahead, lag = chase
    found = []
    if first is not None and ahead == "":
        for sign, behind, given in _steps(reader, first):
            found += _with_chase(sign, "", (behind, second, given, lag))
    elif second is not None and lag == "":
        for sign, behind, given in _steps(reader, second):
            found += _with_chase("", sign, (first, behind, ahead, given))
    return found


def is_caught(chase):
    """Returns whether both texts are over, and nothing is given out ahead."""
    return chase == (None, None, "", "")


def _started(reader):
    """Returns all chases that begin, each with the texts that both have read, by the number of signs of these."""
    found = {}
    for place, text in reader.reached().items():
        for sign, other_sign, chase in begun(reader, place):
            one, other = text + sign, text + other_sign
            found.setdefault(len(one) + len(other), []).append((chase, one, other))
    return found


def find_chases(reader):
    """Returns the list of all chases, each once, and None; or None and two texts that merge, of the fewest signs."""
    found = {}
    waiting = _started(reader)
    many = 0
    while waiting:
        level = waiting.pop(many, [])
        while level:
            chase, one, other = level.pop()
            if chase in found:
                continue
            if is_caught(chase):
                return None, (one, other)
            found[chase] = True
            for sign, other_sign, behind in gone_on(reader, chase):
                row = (behind, one + sign, other + other_sign)
                if sign == other_sign == "":
                    # A text is over, which takes no sign, so that the next chase belongs to this level, too.
                    level.append(row)
                else:
                    waiting.setdefault(many + 1, []).append(row)
        many += 1
    return list(found), None


def _is_chase(reader, chase):
    """Returns whether chase is a quadruple of two places of readers, and of two texts, one of them empty."""
    if not isinstance(chase, tuple) or len(chase) != 4:
        return False
    first, second, ahead, lag = chase
    if not all([place is None or is_place(reader.way, place) for place in (first, second)]):
        return False
    return is_text(ahead) and is_text(lag) and (ahead == "" or lag == "")


def are_chases(reader, chases):
    """Returns whether all chases that begin are there, all as which they go on, and none that is caught."""
    if not all([_is_chase(reader, chase) for chase in chases]):
        return False
    # A dict, as a chase may stand in the list more than once.
    found = {chase: True for chase in chases}
    for place in reader.reached():
        if not all([row[2] in found for row in begun(reader, place)]):
            return False
    for chase in found:
        if is_caught(chase) or not all([row[2] in found for row in gone_on(reader, chase)]):
            return False
    return True
