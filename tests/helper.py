"""What several tests share: short texts, ways, what is wrong, and what the document says, place by place."""

import re
from itertools import combinations, product

from turnedends.ways import read

SIGNS = "anr"
WORDS = ("all", "both", "care", "lone", "lones", "pairs")
# Those that hold back an r, those that remember one, and those that do neither.
HOLDING = ("both", "lones", "pairs")
REMEMBERING = ("care",)
NEITHER = ("all", "lone")
# Some ways of six conversions: mixed ones, and such of one conversion alone.
LONG_WAYS = (
    ("pairs", "care", "lones", "both", "all", "lone"),
    ("lone", "lones", "all", "pairs", "all", "pairs"),
    ("care", "pairs", "care", "pairs", "care", "pairs"),
    ("pairs",) * 6,
    ("lones",) * 6,
    ("all",) * 6,
    ("all", "lone", "care", "both", "lones", "pairs"),
    ("both", "all", "pairs", "lone", "care", "lones"),
)


class Equal:
    """Calls itself equal to anything; so it is mistaken for a word by whoever only compares."""

    def __eq__(self, other):
        return True

    def __hash__(self):
        return 0


# What is none of the things that an argument may be.
ODD = (None, True, False, 0, 1, -1, b"", b"a", b"any", object(), Equal(), {}, {"a": 1}, {"any"}, [], ["a"],
       ["any"], ["all"], [False], range(2), len, str)
WRONG_TEXTS = ODD + ((), ("a",), "b", "A", "N", "R", " ", "a n", "\r", "\n", "\r\n", "an\n", "rna.", "0",
                     "x", "rxn", "anr\0", "a" * 50 + "b", "\u0430")
WRONG_KINDS = ODD + ((), ("any",), "", "a", "Any", "ANY", "any ", " any", "anybare", "none", "pair", "pairs",
                     "lones", "all", "an")
WRONG_WAYS = ODD + ("", "all", "care", ("all",) * 7, ("pairs", "care") * 4, ("",), ("All",), ("all ",), ("any",),
                    ("bare",), ("paired",), ("pairs care",), (None,), (True,), (0,), (Equal(),), (b"all",),
                    (["all"],), (("all",),), ({},), ("pairs", "x"), ("x", "pairs"), ("pairs", None, "care"))
WRONG_SIGNS = ODD + ((), ("a",), "", "an", "rn", "anr", "nr", "aa", "b", "A", "\r", "\n", "x", " ", "a ")
WRONG_NUMBERS = tuple([odd for odd in ODD if odd.__class__ is not int])
WRONG_NUMBERS += ("0", "1", (), (1,), -1, -2, 10 ** 30, -10 ** 30)
WRONG_LIMITS = WRONG_NUMBERS + (5, 6, 9)
WRONG_ROUNDS = WRONG_NUMBERS + (10, 11)
WRONG_PRICES = ODD + (
    (), "all", ("all",), [("all", 1)], {"all": 0}, {"all": 10}, {"all": -1}, {"all": True}, {"all": False},
    {"all": "1"}, {"all": None}, {"all": (1,)}, {"all": [1]}, {"all": Equal()}, {"all": 10 ** 30}, {"All": 1}, {"": 1},
    {"any": 1}, {"all ": 1}, {b"all": 1}, {1: 1}, {True: 1}, {None: 1}, {("all",): 1}, {Equal(): 1},
    {"all": 1, "x": 1}, {"x": 1, "all": 1}, {"all": 1, "pairs": 0}, {"pairs": True, "all": 1},
    {"all": 1, "both": 1, "care": 1, "lone": 1, "lones": 1, "pairs": 10},
    {"all": 1, "both": 1, "care": 1, "lone": 1, "lones": 1, "pairs": 1, "any": 1})
# What is no ascending tuple of indices of conversions, not even of a way of six.
WRONG_LOTS = ODD + ("", "0", "01", (True,), (False,), (0, True), (False, 1), (0, 0), (1, 0), (0, 2, 1), (0, 1, 1), (-1,),
                    (-1, 0), (6,), (0, 6), (5, 6), (10 ** 30,), (None,), ("0",), (b"0",), ((0,),), ([0],), ({},),
                    (Equal(),), (0, None), (None, 1), [0], [0, 1], {0: 1}, {0}, range(1))
WRONG_OFFERS = WRONG_LOTS + ((), (0, 1, 2, 3, 4), (1, 2, 3, 4, 5), (0, 1, 2, 3, 4, 5))
# Some that are no texts, though they are strings.
NO_TEXTS = ("x", "xrn", "rnx", "b", "N", "R", " ", "rn\n", "\r\n", "a n", "\u0430")
PATTERNS = {"any": "[anr]*", "bare": "[an]*", "lone": "[ar]*", "paired": "(a|rn)*"}


def texts(longest):
    """All texts of at most so many signs, the empty one first."""
    return ["".join(signs) for length in range(longest + 1) for signs in product(SIGNS, repeat=length)]


def ways(longest):
    """All ways of at most so many conversions, the empty one first."""
    return [way for length in range(longest + 1) for way in product(WORDS, repeat=length)]


def one_place(word, behind, sign, ahead):
    """What becomes of a sign, by the signs directly around it: "" is none."""
    if sign == "n" and (word == "all" or word == "care" and behind != "r"):
        return "rn"
    if sign == "n" and word == "lone":
        return "r"
    if sign == "r" and ahead == "n" and word in ("both", "pairs"):
        return ""
    if sign == "r" and ahead != "n" and word in ("both", "lones"):
        return "n"
    return sign


def by_places(way, text):
    """A text turned by a way, from the words of the document: all places at once, by one after the other."""
    for word in way:
        around = ["", *text, ""]
        text = "".join([one_place(word, around[k], around[k + 1], around[k + 2]) for k in range(len(text))])
    return text


def texts_of(kind, longest):
    """All texts of a kind of at most so many signs, the shortest ones first."""
    return [text for text in texts(longest) if re.fullmatch(PATTERNS[kind], text)]


def signs_behind(kind, waits):
    """The signs that can come for a kind, as the document has them."""
    if kind == "paired":
        return "n" if waits else "ar"
    return {"bare": "an", "lone": "ar", "any": "anr"}[kind]


def moves_at(way, kind, place):
    """For each sign that can come at a place of a reader: the sign, the place behind it, and what is given out."""
    found = []
    for sign in sorted(signs_behind(kind, place[1])):
        standing, given = read(way, place[0], sign)
        found.append((sign, (standing, kind == "paired" and sign == "r"), given))
    return found


def places_of(way, kind):
    """The list of all places that come about, the first one first."""
    found = [((False,) * len(way), False)]
    for place in found:
        found += [behind for _, behind, _ in moves_at(way, kind, place) if behind not in found]
    return found


def flipped_places(way, place):
    """All places that differ from one in one boolean."""
    standing, waits = place
    found = [(standing[:k] + (not standing[k],) + standing[k + 1:], waits)
             for k, word in enumerate(way) if word not in NEITHER]
    return found + [(standing, not waits)]


class Images:
    """What all texts of at most so many signs become by ways, from the words of the document; each is found once."""

    def __init__(self, longest):
        self.longest = longest
        self.texts = texts(longest)
        self.of_kind = {kind: texts_of(kind, longest) for kind in PATTERNS}
        self.found = {(): {text: text for text in self.texts}}

    def of(self, way):
        if way not in self.found:
            ahead = self.of(way[:-1])
            self.found[way] = {text: by_places(way[-1:], ahead[text]) for text in self.texts}
        return self.found[way]


def check_refusals(test, calls, arguments):
    """Each call refuses each wrong argument with its error, and of two wrong ones the one that is named first.

    An argument is a triple: a value that is right, those that are wrong, and the error; the calls take them in order.
    """
    right = [argument[0] for argument in arguments]
    for k, (_, wrongs, error) in enumerate(arguments):
        for wrong in wrongs:
            for call in calls:
                with test.subTest(call=call, at=k, wrong=wrong), test.assertRaises(error):
                    call(*right[:k], wrong, *right[k + 1:])
    for k, m in combinations(range(len(arguments)), 2):
        for wrong, later in product(arguments[k][1], arguments[m][1]):
            for call in calls:
                with test.subTest(call=call, at=(k, m), wrong=(wrong, later)), test.assertRaises(arguments[k][2]):
                    call(*right[:k], wrong, *right[k + 1:m], later, *right[m + 1:])
    everything = [argument[1][0] for argument in arguments]
    for call in calls:
        test.assertRaises(arguments[0][2], call, *everything)


def check_equality(test, equal, different):
    """Objects that are made alike are equal, all the others are not, neither are they equal to anything else."""
    for one, other in product(equal, repeat=2):
        test.assertIs(one == other, True)
        test.assertIs(one != other, False)
    for one, other in product(equal, different + [None, True, 0, 1, "", "n", (), [], {}, object()]):
        for first, second in ((one, other), (other, one)):
            test.assertIs(first == second, False, (first, second))
            test.assertIs(first != second, True, (first, second))
    for one in equal:
        test.assertIs(one == Equal(), False)
        test.assertIs(one != Equal(), True)
