"""What several tests share: short texts, ways, what is wrong, and the conversions place by place."""

from itertools import product

SIGNS = "anr"
WORDS = ("all", "both", "care", "lone", "lones", "pairs")
# Those that hold back an r, those that remember one, and those that do neither.
HOLDING = ("both", "lones", "pairs")
REMEMBERING = ("care",)
NEITHER = ("all", "lone")
# Some ways of six conversions: mixed ones, and such of one conversion alone.
LONG_WAYS = (
    ("pairs", "care", "lones", "both", "all", "lone"),
    ("lone", "lones", "all", "pairs", "all", "pairs"),
    ("care", "pairs", "care", "pairs", "care", "pairs"),
    ("pairs",) * 6,
    ("lones",) * 6,
    ("all",) * 6,
    ("all", "lone", "care", "both", "lones", "pairs"),
    ("both", "all", "pairs", "lone", "care", "lones"),
)


class Equal:
    """Calls itself equal to anything; so it is mistaken for a word by whoever only compares."""

    def __eq__(self, other):
        return True

    def __hash__(self):
        return 0


# What is none of the things that an argument may be.
ODD = (None, True, False, 0, 1, -1, b"", b"a", b"any", object(), Equal(), {}, {"a": 1}, {"any"}, [], ["a"],
       ["any"], ["all"], [False], range(2), len, str)
WRONG_TEXTS = ODD + ((), ("a",), "b", "A", "N", "R", " ", "a n", "\r", "\n", "\r\n", "an\n", "rna.", "0",
                     "x", "rxn", "anr\0", "a" * 50 + "b", "\u0430")
WRONG_KINDS = ODD + ((), ("any",), "", "a", "Any", "ANY", "any ", " any", "anybare", "none", "pair", "pairs",
                     "lones", "all", "an")
WRONG_WAYS = ODD + ("", "all", "care", ("all",) * 7, ("pairs", "care") * 4, ("",), ("All",), ("all ",), ("any",),
                    ("bare",), ("paired",), ("pairs care",), (None,), (True,), (0,), (Equal(),), (b"all",),
                    (["all"],), (("all",),), ({},), ("pairs", "x"), ("x", "pairs"), ("pairs", None, "care"))
WRONG_SIGNS = ODD + ((), ("a",), "", "an", "rn", "anr", "nr", "aa", "b", "A", "\r", "\n", "x", " ", "a ")


def texts(longest):
    """All texts of at most so many signs, the empty one first."""
    return ["".join(signs) for length in range(longest + 1) for signs in product(SIGNS, repeat=length)]


def ways(longest):
    """All ways of at most so many conversions, the empty one first."""
    return [way for length in range(longest + 1) for way in product(WORDS, repeat=length)]


def one_place(word, behind, sign, ahead):
    """What becomes of a sign, by the signs directly around it: "" is none."""
    if sign == "n" and (word == "all" or word == "care" and behind != "r"):
        return "rn"
    if sign == "n" and word == "lone":
        return "r"
    if sign == "r" and ahead == "n" and word in ("both", "pairs"):
        return ""
    if sign == "r" and ahead != "n" and word in ("both", "lones"):
        return "n"
    return sign


def by_places(way, text):
    """A text turned by a way, from the words of the document: all places at once, by one after the other."""
    for word in way:
        around = ["", *text, ""]
        text = "".join([one_place(word, around[k], around[k + 1], around[k + 2]) for k in range(len(text))])
    return text
