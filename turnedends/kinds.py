"""Texts of three signs, and their kinds."""

from turnedends.errors import BadKind, BadText

SIGNS = ("a", "n", "r")
KINDS = ("any", "bare", "lone", "paired")

# The signs of which a text of the kind is made, for those kinds in which each can come behind each.
_MADE_OF = {"any": ("a", "n", "r"), "bare": ("a", "n"), "lone": ("a", "r")}


def is_text(text):
    """Returns whether text is a string of the three signs."""
    # Asked first for a string, for anything else might not even be iterated over.
    return isinstance(text, str) and all([sign in SIGNS for sign in text])


def check_text(text):
    """Raises BadText unless text is a string of the three signs."""
    if not is_text(text):
        raise BadText("a text is a string of the signs a, n and r")


def check_kind(kind):
    """Raises BadKind unless kind is one of the four words."""
    # Asked first for a string, for other objects may call themselves equal to a word.
    if not isinstance(kind, str) or kind not in KINDS:
        raise BadKind("a kind is any, bare, lone or paired")


def fits(text, kind):
    """Returns what `is_of` does, without checks."""
    if kind == "bare":
        return "r" not in text
    if kind == "lone":
        return "n" not in text
    if kind == "paired":
        return text.count("r") == text.count("n") == text.count("rn")
    return True


def is_of(text, kind):
    """Returns whether a text is one of a kind."""
    check_text(text)
    check_kind(kind)
    return fits(text, kind)


def is_half(kind, sign):
    """Returns whether a text that ends with a sign waits for an n: the kind is paired, and the sign is r."""
    return kind == "paired" and sign == "r"


def coming(kind, waits):
    """Returns the signs that can come for a kind behind a text, of which is told whether it waits for an n."""
    if kind == "paired":
        return ("n",) if waits else ("a", "r")
    return _MADE_OF[kind]


def waits_behind(kind, waits, text):
    """Returns whether an n is waited for behind a text that comes, None if a sign of it cannot come."""
    for sign in text:
        if sign not in coming(kind, waits):
            return None
        waits = is_half(kind, sign)
    return waits
