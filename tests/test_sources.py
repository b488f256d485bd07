import re
import unittest

from helper import (LONG_WAYS, PATTERNS, WRONG_KINDS, WRONG_TEXTS, WRONG_WAYS, Images, by_places, check_refusals, texts,
                    texts_of, ways)
from turnedends import errors
from turnedends.kinds import KINDS
from turnedends.sources import first_source, sources
from turnedends.ways import turned


class SourcesTest(unittest.TestCase):

    def check(self, images, way, longest, times):
        """What sources tells is what turning all texts tells, for texts of which the sources are at most so long."""
        image = images.of(way)
        for kind in KINDS:
            expected = {}
            for text in images.of_kind[kind]:
                expected.setdefault(image[text], []).append(text)
            for text in texts(longest):
                found = sources(way, text, kind)
                self.assertLess(max([len(source) for source in found], default=0), len(text) * times + 1)
                self.assertEqual(found, expected.get(text, []), (way, text, kind))
                self.assertEqual(first_source(way, text, kind), found[0] if found else None)

    def test_all_short_ways(self):
        # Two conversions make three signs one at most, so that texts of two signs have no sources of seven.
        images = Images(6)
        for way in ways(2):
            self.check(images, way, 2, 3)

    def test_longer_texts(self):
        images = Images(8)
        for way in ways(1):
            self.check(images, way, 4, 2)

    def test_longer_ways(self):
        images = Images(7)
        for way in LONG_WAYS + tuple(ways(3)[43::5]):
            self.check(images, way, 1, 7)

    def test_the_way_of_no_conversions(self):
        for kind in KINDS:
            for text in texts(4):
                expected = [text] if re.fullmatch(PATTERNS[kind], text) else []
                self.assertEqual(sources((), text, kind), expected)
                self.assertEqual(first_source((), text, kind), expected[0] if expected else None)

    def test_the_empty_text(self):
        for way in ways(2) + list(LONG_WAYS):
            for kind in KINDS:
                self.assertEqual(sources(way, "", kind), [""])
                self.assertEqual(first_source(way, "", kind), "")

    def test_ways_of_six_conversions(self):
        six = ("pairs",) * 6
        self.assertEqual(sources(six, "n", "any"), ["r" * many + "n" for many in range(7)])
        self.assertEqual([sources(six, "n", kind) for kind in KINDS[1:]], [["n"], [], ["rn"]])
        self.assertEqual(sources(six, "rn", "any"), ["rrrrrrrn"])
        self.assertEqual(sources(("all",) * 6, "arrrrrrna", "any"), ["ana"])
        self.assertEqual(sources(("all",) * 6, "rrrrrrrn", "any"), ["rn"])
        self.assertEqual(sources(("all",) * 6, "rrrrrn", "any"), [])

    def test_a_text_without_sources(self):
        for way, text in ((("all",), "n"), (("lone",), "n"), (("care",), "an"), (("both",), "r"), (("lones",), "r"),
                          (("both", "all"), "rrn")):
            for kind in KINDS:
                self.assertEqual(sources(way, text, kind), [])
                self.assertIsNone(first_source(way, text, kind))

    def test_each_kind(self):
        found = [sources(("both",), "ana", kind) for kind in KINDS]
        self.assertEqual(found, [["ana", "ara", "arna"], ["ana"], ["ara"], ["arna"]])
        # The r of the last text could be a beginning of one of the kind, but no text of it ends there.
        self.assertEqual([sources(("pairs",), "r", kind) for kind in KINDS], [["r"], [], ["r"], []])
        self.assertEqual([sources(("lone",), "rr", kind) for kind in KINDS], [["nn", "nr", "rn", "rr"], ["nn"], ["rr"],
                                                                             ["rn"]])

    def test_the_order(self):
        self.assertEqual(sources(("both",), "nn", "any"), ["nn", "nr", "rr", "nrn", "rnn", "rnr", "rrn", "rnrn"])
        self.assertEqual(sources(("pairs", "pairs", "both"), "n", "any"), ["n", "r", "rn", "rrn", "rrrn"])
        for text in ("nan", "nnn", "annan"):
            found = sources(("pairs", "both"), text, "any")
            self.assertEqual(found, sorted(sorted(found), key=len))
            self.assertEqual(len(found), len(set(found)))


class ManySourcesTest(unittest.TestCase):

    def check_exactly(self, way, text, kind, many):
        found = sources(way, text, kind)
        self.assertEqual(len(found), many)
        self.assertEqual(found, sorted(sorted(set(found)), key=len))
        for source in found:
            self.assertEqual(by_places(way, source), text)
            self.assertTrue(re.fullmatch(PATTERNS[kind], source))
        self.assertEqual(first_source(way, text, kind), found[0])

    def refuse(self, way, text, kind):
        self.assertRaises(errors.TooMany, sources, way, text, kind)
        self.assertRaises(errors.TooMany, first_source, way, text, kind)

    def test_exactly_200(self):
        # Any number of the last ones may have been r, as many as are behind one another.
        self.check_exactly(("lones",), "n" * 199, "any", 200)
        self.check_exactly(("lones",), "a".join(["n", "nnn", "nnnn", "nnnn"]), "any", 200)
        self.check_exactly(("lones",), "a".join(["nnnn", "n", "nnnn", "nnn", "r"])[:-2], "any", 200)

    def test_one_more(self):
        self.refuse(("lones",), "n" * 200, "any")
        # As many as 3 times 67.
        self.refuse(("lones",), "nna" + "n" * 66, "any")
        self.check_exactly(("lones",), "nna" + "n" * 65, "any", 198)

    def test_many_more(self):
        self.check_exactly(("both",), "n" * 5, "any", 144)
        self.refuse(("both",), "n" * 6, "any")
        self.refuse(("both",), "n" * 100, "any")
        self.refuse(("both",), "an" * 300, "any")
        self.check_exactly(("care",), "arn" * 7, "any", 128)
        self.refuse(("care",), "arn" * 8, "any")
        self.refuse(("pairs",) * 6, "nnn", "any")
        self.refuse(("both", "care"), "rn" * 6, "any")

    def test_many_of_different_lengths(self):
        # No more than 200 of them have the same length, but all together are more.
        found = [len(source) for source in sources(("care",), "arn" * 7, "any")]
        self.assertEqual([found.count(14 + many) for many in range(8)], [1, 7, 21, 35, 35, 21, 7, 1])
        self.refuse(("care",), "arn" * 8, "any")

    def test_other_kinds_have_one_at_most(self):
        for text in ("n" * 300, "an" * 200):
            for kind in KINDS[1:]:
                self.assertEqual(len(sources(("both",), text, kind)), 1)
        self.assertEqual(sources(("both",), "n" * 300, "paired"), ["rn" * 300])

    def test_what_goes_wrong_only_at_the_end(self):
        # Each n may come from several, but the r at the end does not come from any.
        self.assertEqual(sources(("both",), "n" * 60 + "r", "any"), [])
        self.assertIsNone(first_source(("both",), "n" * 60 + "r", "any"))

    def test_long_texts(self):
        self.assertEqual(sources(("care",), "a" * 2000, "any"), ["a" * 2000])
        self.assertEqual(sources(("all",), "arn" * 700, "any"), ["an" * 700])
        found = sources(("care",), "a" * 500 + "rn", "any")
        self.assertEqual(found, ["a" * 500 + "n", "a" * 500 + "rn"])


class ConventionsTest(unittest.TestCase):

    def test_wrong_inputs(self):
        check_refusals(self, [sources, first_source], [
            (("care",), WRONG_WAYS, errors.BadWay), ("arn", WRONG_TEXTS, errors.BadText),
            ("any", WRONG_KINDS, errors.BadKind)])

    def test_what_is_wrong_is_refused_ahead_of_what_is_too_much(self):
        for call in (sources, first_source):
            self.assertRaises(errors.BadWay, call, ("both", "any"), "n" * 50, "any")
            self.assertRaises(errors.BadText, call, ("both",), "n" * 50 + "x", "any")
            self.assertRaises(errors.BadKind, call, ("both",), "n" * 50, "Any")

    def test_each_list_is_a_new_one(self):
        for way in ways(1):
            first, second = sources(way, "arn", "any"), sources(way, "arn", "any")
            self.assertIsNot(first, second)
            first.append("a")
            self.assertEqual(sources(way, "arn", "any"), second)
            self.assertIs(second.__class__, list)

    def test_the_sources_are_turned_into_the_text(self):
        for way in ways(2) + list(LONG_WAYS):
            for kind in KINDS:
                for text in texts_of(kind, 2):
                    self.assertIn(text, sources(way, turned(way, text), kind))


if __name__ == "__main__":
    unittest.main()
