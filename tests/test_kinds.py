import re
import unittest

from helper import WRONG_KINDS, WRONG_TEXTS, texts
from turnedends.errors import BadKind, BadText
from turnedends.kinds import KINDS, is_of


def paired_by_places(text):
    """Whether each r is directly ahead of an n, and each n directly behind an r."""
    around = " " + text + " "
    return all([around[k + 1] == "n" if around[k] == "r" else around[k + 1] != "n" for k in range(len(text) + 1)])


class KindsTest(unittest.TestCase):

    def test_the_kinds_are_an_ascending_tuple(self):
        self.assertEqual(KINDS, ("any", "bare", "lone", "paired"))
        self.assertIs(KINDS.__class__, tuple)

    def test_all_short_texts(self):
        for text in texts(7):
            self.assertIs(is_of(text, "any"), True)
            self.assertIs(is_of(text, "bare"), re.fullmatch("[an]*", text) is not None)
            self.assertIs(is_of(text, "lone"), re.fullmatch("[ar]*", text) is not None)
            self.assertIs(is_of(text, "paired"), re.fullmatch("(a|rn)*", text) is not None)
            self.assertIs(is_of(text, "paired"), paired_by_places(text))

    def test_the_empty_text_is_of_each_kind(self):
        self.assertEqual([is_of("", kind) for kind in KINDS], [True] * 4)

    def test_pairs_that_are_none(self):
        for text in ("r", "n", "nr", "rr", "nn", "rrn", "rnn", "rnr", "nrn", "rrnn", "ran", "rnar", "nrrn"):
            self.assertIs(is_of(text, "paired"), False, text)
        for text in ("a", "rn", "rnrn", "arna", "rnaarn"):
            self.assertIs(is_of(text, "paired"), True, text)

    def test_a_long_text(self):
        self.assertIs(is_of("rna" * 5000, "paired"), True)
        self.assertIs(is_of("rna" * 5000 + "r", "paired"), False)
        self.assertIs(is_of("an" * 5000, "bare"), True)
        self.assertIs(is_of("ar" * 5000, "lone"), True)

    def test_wrong_texts(self):
        for text in WRONG_TEXTS:
            for kind in KINDS:
                with self.subTest(text=text, kind=kind), self.assertRaises(BadText):
                    is_of(text, kind)

    def test_wrong_kinds(self):
        for kind in WRONG_KINDS:
            for text in ("", "a", "rn"):
                with self.subTest(text=text, kind=kind), self.assertRaises(BadKind):
                    is_of(text, kind)

    def test_a_wrong_text_is_refused_ahead_of_a_wrong_kind(self):
        for text in WRONG_TEXTS:
            for kind in WRONG_KINDS:
                with self.subTest(text=text, kind=kind), self.assertRaises(BadText):
                    is_of(text, kind)

    def test_what_is_refused_is_not_modified(self):
        text, kind = ["a", "n"], ["any"]
        self.assertRaises(BadText, is_of, text, kind)
        self.assertRaises(BadKind, is_of, "a", kind)
        self.assertEqual((text, kind), (["a", "n"], ["any"]))


if __name__ == "__main__":
    unittest.main()
