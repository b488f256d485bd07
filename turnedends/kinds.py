"""Texts of three signs, and their kinds."""

from turnedends.errors import BadKind, BadText

SIGNS = ("a", "n", "r")
KINDS = ("any", "bare", "lone", "paired")


def check_text(text):
    """Raises BadText unless text is a string of the three signs."""
    # Asked first for a string, for anything else might not even be iterated over.
    if not isinstance(text, str) or not all([sign in SIGNS for sign in text]):
        raise BadText("a text is a string of the signs a, n and r")


def check_kind(kind):
    """Raises BadKind unless kind is one of the four words."""
    # Asked first for a string, for other objects may call themselves equal to a word.
    if not isinstance(kind, str) or kind not in KINDS:
        raise BadKind("a kind is any, bare, lone or paired")


def is_of(text, kind):
    """Returns whether a text is one of a kind."""
    check_text(text)
    check_kind(kind)
    if kind == "bare":
        return "r" not in text
    if kind == "lone":
        return "n" not in text
    if kind == "paired":
        return text.count("r") == text.count("n") == text.count("rn")
    return True
