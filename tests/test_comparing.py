import unittest
from os.path import commonprefix

from helper import (LONG_WAYS, NEITHER, NO_TEXTS, ODD, WRONG_KINDS, WRONG_WAYS, Images, check_equality, check_refusals,
                    signs_behind, texts_of, ways)
from turnedends import errors
from turnedends.comparing import Alike, Parted, are_alike, compare, first_parting, returns
from turnedends.kinds import KINDS
from turnedends.ways import CONVERSIONS, at_end, read

FIRST = ((), (), False, "", "")
# All rows of the way of no conversions and itself, for each kind.
OF_NONE = {"any": [FIRST], "bare": [FIRST], "lone": [FIRST], "paired": [FIRST, ((), (), True, "", "")]}
# Pairs of ways that are alike for some kinds at least, with standings and texts of many forms in their rows.
SOME = [((), ()), ((), ("pairs",)), (("pairs",), ()), (("care",), ("all",)), (("pairs", "all"), ("care",)),
        (("both", "care"), ("pairs", "care")), (("both", "both"), ("both",)), (("lones", "pairs"), ("both",)),
        (("lone", "lones"), ("both",)), (("pairs", "care"), ("care",)), (("pairs",), ("pairs", "pairs")),
        (("all", "both"), ("pairs",)), (("lones", "lones"), ("lones",)), (("care", "pairs"), ("pairs",)),
        (LONG_WAYS[0], ("both", "lone")), (LONG_WAYS[1], LONG_WAYS[1]), (LONG_WAYS[3], LONG_WAYS[3]),
        (("all",) * 6, ("all",) * 6), (("pairs",) * 6, ("pairs",) * 5)]


def without_common(one, other):
    size = len(commonprefix([one, other]))
    return one[size:], other[size:]


def behind(one, other, kind, row, sign):
    """The row behind a row, of which perhaps no text is empty."""
    first, given = read(one, row[0], sign)
    second, other_given = read(other, row[1], sign)
    return (first, second, kind == "paired" and sign == "r") + without_common(row[3] + given, row[4] + other_given)


def row_of(one, other, kind, text):
    """The row behind a text, from the words of the document."""
    first, second, given, other_given = (False,) * len(one), (False,) * len(other), "", ""
    for sign in text:
        first, out = read(one, first, sign)
        given += out
        second, out = read(other, second, sign)
        other_given += out
    return (first, second, kind == "paired" and text[-1:] == "r") + without_common(given, other_given)


def beginnings(kind, longest):
    """The texts of at most so many signs with which one of a kind begins."""
    found = texts_of(kind, longest)
    return found + [text + "r" for text in found if len(text) < longest] if kind == "paired" else found


def do_show(one, other, kind, rows):
    """Whether rows show that two ways are alike, from the words of the document."""
    if ((False,) * len(one), (False,) * len(other), False, "", "") not in rows:
        return False
    for row in rows:
        first, second, waits, ahead, lag = row
        if set(ahead + lag) - set("anr") or ahead and lag:
            return False
        if not waits and ahead + at_end(one, first) != lag + at_end(other, second):
            return False
        if not all(behind(one, other, kind, row, sign) in rows for sign in signs_behind(kind, waits)):
            return False
    return True


def flipped(way, standing):
    """All standings that differ from one in one boolean."""
    return [standing[:k] + (not standing[k],) + standing[k + 1:] for k, word in enumerate(way) if word not in NEITHER]


def changed(one, other, row):
    """Many rows that differ from a row in one item."""
    first, second, waits, ahead, lag = row
    found = [(found, second, waits, ahead, lag) for found in flipped(one, first)]
    found += [(first, found, waits, ahead, lag) for found in flipped(other, second)]
    found += [(first, second, not waits, ahead, lag)]
    for text in ("", "a", "n", "r", ahead + "a", "n" + lag, "x"):
        found += [(first, second, waits, text, lag)] if text != ahead else []
        found += [(first, second, waits, ahead, text)] if text != lag else []
    return found


class CompareTest(unittest.TestCase):

    def check(self, images, one, other):
        """What compare and the others tell is what turning all short texts of a kind tells."""
        first, second = images.of(one), images.of(other)
        for kind in KINDS:
            lengths = [len(text) for text in images.of_kind[kind] if first[text] != second[text]]
            found = compare(one, other, kind)
            least = first_parting(one, other, kind)
            self.assertIs(found.shows(one, other, kind), True, (one, other, kind))
            self.assertIs(are_alike(one, other, kind), found.__class__ is Alike)
            if lengths:
                self.assertEqual(least, lengths[0], (one, other, kind))
            else:
                self.assertTrue(least is None or least > images.longest, (one, other, kind))
            if least is None:
                self.assertIs(found.__class__, Alike)
            else:
                self.assertIs(found.__class__, Parted)
                self.assertGreaterEqual(len(found.text), least)

    def test_all_pairs_of_short_ways(self):
        images = Images(5)
        short = ways(2)
        for one in short:
            for other in short:
                self.check(images, one, other)

    def test_pairs_of_longer_ways(self):
        images = Images(6)
        longer = ways(3)[43::11] + list(LONG_WAYS)
        for k, one in enumerate(longer):
            for other in longer[k % 3::3]:
                self.check(images, one, other)
        for one, other in SOME:
            self.check(images, one, other)

    def test_each_way_is_alike_with_itself(self):
        for way in ways(3) + list(LONG_WAYS):
            for kind in KINDS:
                self.assertIs(are_alike(way, way, kind), True)
                self.assertIsNone(first_parting(way, way, kind))

    def test_the_way_of_no_conversions(self):
        for kind in KINDS:
            self.assertTrue(compare((), (), kind).shows((), (), kind))
            self.assertEqual(sorted(compare((), (), kind).rows), OF_NONE[kind])
        self.assertEqual([first_parting((), ("all",), kind) for kind in KINDS], [1, 1, None, 2])
        self.assertEqual([first_parting(("lones",), (), kind) for kind in KINDS], [1, None, 1, None])

    def test_ways_of_six_conversions(self):
        six, five = ("pairs",) * 6, ("pairs",) * 5
        self.assertEqual([first_parting(six, five, kind) for kind in KINDS], [7, None, None, None])
        self.assertEqual(compare(six, five, "any"), Parted("rrrrrrn"))
        self.assertIs(are_alike(six, five, "lone"), True)
        self.assertEqual([first_parting(("all",) * 6, ("all",) * 5, kind) for kind in KINDS], [1, 1, None, 2])

    def test_kinds_tell_ways_apart(self):
        self.assertEqual([are_alike(("all",), ("care",), kind) for kind in KINDS], [False, True, True, False])
        self.assertEqual([are_alike(("pairs",), ("both",), kind) for kind in KINDS], [False, True, False, True])
        self.assertEqual([are_alike(("lones",), ("both",), kind) for kind in KINDS], [False, True, True, False])

    def test_a_parting_is_not_longer_for_what_waits(self):
        # Parted already behind the r, but no text of the kind ends there.
        self.assertEqual(first_parting(("lone", "lones"), (), "paired"), 2)
        self.assertEqual(first_parting(("lone",), ("both", "lone"), "paired"), 2)

    def test_returns(self):
        for way in ways(2) + list(LONG_WAYS):
            for kind in KINDS:
                self.assertIs(returns(way, kind), are_alike(way, (), kind), (way, kind))
        self.assertEqual([returns((), kind) for kind in KINDS], [True] * 4)
        self.assertEqual([returns(("pairs", "care"), kind) for kind in KINDS], [False, False, True, True])
        self.assertEqual([returns(("all", "pairs"), kind) for kind in KINDS], [True] * 4)
        found = [[returns((word,), kind) for kind in KINDS] for word in CONVERSIONS]
        self.assertEqual(found, [[False, False, True, False], [False, True, False, False], [False, False, True, True],
                                 [False, False, True, False], [False, True, False, True], [False, True, True, False]])


class AlikeTest(unittest.TestCase):

    def test_the_rows_are_those_behind_all_texts(self):
        for one, other in SOME:
            for kind in KINDS:
                found = compare(one, other, kind)
                if found.__class__ is Alike:
                    self.assertIs(found.rows.__class__, list)
                    self.assertTrue(do_show(one, other, kind, found.rows), (one, other, kind))
                    for text in beginnings(kind, 5):
                        self.assertIn(row_of(one, other, kind, text), found.rows, (one, other, kind, text))

    def test_rows_that_show(self):
        self.assertIs(Alike([FIRST]).shows((), (), "any"), True)
        self.assertIs(Alike([((), (True,), True, "r", ""), ((), (False,), False, "", "")]).shows(
            (), ("lones",), "paired"), True)
        held = [((False,), (False,), False, "", ""), ((True,), (True,), False, "", "")]
        self.assertIs(Alike(held).shows(("pairs",), ("pairs",), "any"), True)
        ahead = [((), (False,), False, "", ""), ((), (True,), False, "r", "")]
        self.assertIs(Alike(ahead).shows((), ("pairs",), "lone"), True)
        swapped = [((False,), (), False, "", ""), ((True,), (), False, "", "r")]
        self.assertIs(Alike(swapped).shows(("pairs",), (), "lone"), True)

    def test_rows_are_needed(self):
        for one, other in SOME:
            for kind in KINDS:
                found = compare(one, other, kind)
                if found.__class__ is Alike:
                    for k in range(len(found.rows)):
                        left = found.rows[:k] + found.rows[k + 1:]
                        self.assertIs(Alike(left).shows(one, other, kind), False, (one, other, kind, k))

    def test_rows_that_are_changed_or_more(self):
        for one, other in SOME:
            for kind in KINDS:
                found = compare(one, other, kind)
                if found.__class__ is not Alike:
                    continue
                for k, row in enumerate(found.rows):
                    for new in changed(one, other, row):
                        rows = found.rows[:k] + [new] + found.rows[k + 1:]
                        self.assertIs(Alike(rows).shows(one, other, kind), False, (one, other, kind, row, new))
                        expected = do_show(one, other, kind, found.rows + [new])
                        self.assertIs(Alike(found.rows + [new]).shows(one, other, kind), expected, (one, other, new))

    def test_rows_more_than_once_and_in_any_order(self):
        for one, other in SOME:
            for kind in KINDS:
                found = compare(one, other, kind)
                if found.__class__ is Alike:
                    self.assertIs(Alike(found.rows * 2).shows(one, other, kind), True)
                    self.assertIs(Alike(found.rows[::-1] + found.rows[:1]).shows(one, other, kind), True)

    def test_no_rows(self):
        for one, other in SOME:
            for kind in KINDS:
                self.assertIs(Alike([]).shows(one, other, kind), False)

    def test_rows_without_the_first_one(self):
        self.assertIs(Alike([((), (), True, "", "")]).shows((), (), "any"), False)
        # The way goes on from the second row for ever, but it does not lead back.
        rows = [((False,), (False,), False, "", ""), ((True,), (True,), False, "", "")]
        self.assertIs(Alike(rows[1:]).shows(("care",), ("care",), "any"), False)
        self.assertIs(Alike(rows).shows(("care",), ("care",), "any"), True)

    def test_a_row_that_is_not_even(self):
        rows = [((), (), False, "", ""), ((), (), False, "a", "")]
        self.assertIs(Alike(rows).shows((), (), "any"), False)
        # Behind it all is closed; only its ends are not alike.
        rows = [((False,), (), False, "", ""), ((True,), (), False, "", "r"), ((True,), (), False, "", "n")]
        self.assertIs(Alike(rows[:2]).shows(("pairs",), (), "lone"), True)
        self.assertIs(Alike(rows).shows(("pairs",), (), "lone"), False)
        kept = [((False,), (False,), False, "", ""), ((True,), (False,), False, "", "")]
        self.assertIs(Alike(kept[:1]).shows(("pairs",), ("both",), "bare"), True)
        self.assertIs(Alike(kept).shows(("pairs",), ("both",), "bare"), False)

    def test_what_waits_is_even(self):
        # At the end, the one gives out n, and the other one nothing; but there is no end.
        rows = [((False,), (False,), False, "", ""), ((True,), (True,), True, "", "")]
        self.assertIs(Alike(rows).shows(("both",), ("pairs",), "paired"), True)
        self.assertIs(are_alike(("both",), ("pairs",), "paired"), True)
        odd = ((True,), (True,), False, "", "")
        self.assertIs(Alike(rows + [odd]).shows(("both",), ("pairs",), "paired"), False)

    def test_a_boolean_of_a_row_that_is_more_than_needed(self):
        # With kinds that are not paired it is even, too, and all signs of the kind can come.
        for kind in ("any", "bare", "lone"):
            self.assertIs(Alike([FIRST, ((), (), True, "", "")]).shows((), (), kind), True)
            self.assertIs(Alike([FIRST, ((), (), True, "a", "")]).shows((), (), kind), False)
        for kind in ("any", "bare"):
            first = ((False,), (), False, "", "")
            more = ((True,), (), True, "", "")
            self.assertIs(Alike([first, more]).shows(("lones",), (), kind), False)
        rows = [((False,), (False,), False, "", ""), ((True,), (True,), True, "", "n")]
        self.assertIs(Alike(rows).shows(("pairs",), ("pairs",), "bare"), False)

    def test_a_row_without_an_empty_text(self):
        for kind in KINDS:
            for text in ("a", "n", "rn"):
                for waits in (False, True):
                    rows = OF_NONE[kind] + [((), (), waits, text, text)]
                    self.assertIs(Alike(rows).shows((), (), kind), False, (kind, text))

    def test_a_row_with_what_is_no_text(self):
        for kind in KINDS:
            for text in NO_TEXTS:
                for row in (((), (), True, text, ""), ((), (), False, "", text), ((), (), True, "", text)):
                    self.assertIs(Alike(OF_NONE[kind] + [row]).shows((), (), kind), False)
                    self.assertIs(Alike([row]).shows((), (), kind), False)

    def test_a_standing_that_does_not_come_about(self):
        way = ("pairs", "care")
        rows = compare(way, way, "any").rows
        closed = ((False, True), (False, True), False, "", "")
        self.assertNotIn(closed, rows)
        self.assertIs(Alike(rows + [closed]).shows(way, way, "any"), True)
        self.assertIs(Alike([closed] + rows + [closed]).shows(way, way, "any"), True)
        # Even, but an n is turned differently.
        odd = ((False, True), (False, False), False, "", "")
        self.assertIs(Alike(rows + [odd]).shows(way, way, "any"), False)
        self.assertIs(Alike(rows + [odd]).shows(way, way, "lone"), False)

    def test_what_is_no_row(self):
        standing = ((False,), (False,), False, "", "")
        for row in ODD + ((), standing[:4], standing + ("",), ((), (False,), False, "", ""), ((0,), (0,), 0, "", ""),
                          ((True,), (False,), False, "", ""), ((False,), (True,), False, "", ""),
                          ((False,), (), False, "", ""), ((False,), (False,), 0, "", ""), list(standing)):
            self.assertIs(Alike([standing, row]).shows(("all",), ("all",), "any"), False, row)
        for text in ODD:
            for row in (standing[:3] + (text, ""), standing[:3] + ("", text)):
                self.assertIs(Alike([standing, row]).shows(("all",), ("all",), "any"), False, row)

    def test_rows_of_other_ways(self):
        rows = compare(("care",), ("care",), "any").rows
        self.assertIs(Alike(rows).shows(("care",), ("pairs",), "any"), False)
        self.assertIs(Alike(rows).shows(("care",), ("all",), "any"), False)
        self.assertIs(Alike(rows).shows(("care",), ("care", "care"), "any"), False)
        self.assertIs(Alike(compare((), (), "bare").rows).shows((), (), "paired"), False)

    def test_the_current_rows(self):
        found = compare(("care",), ("care",), "any")
        last = found.rows.pop()
        self.assertIs(found.shows(("care",), ("care",), "any"), False)
        found.rows = [last] + found.rows
        self.assertIs(found.shows(("care",), ("care",), "any"), True)
        found.rows.clear()
        self.assertIs(found.shows(("care",), ("care",), "any"), False)


class PartedTest(unittest.TestCase):

    def test_texts_that_show(self):
        for text in ("rn", "arn", "rnrn", "rnn", "rrn", "rnra"):
            self.assertIs(Parted(text).shows(("all",), ("care",), "any"), True, text)
        self.assertIs(Parted("rn").shows(("all",), ("care",), "paired"), True)
        self.assertIs(Parted("n").shows((), ("all",), "bare"), True)
        self.assertIs(Parted("n" * 500 + "rn").shows(("care",), ("all",), "any"), True)

    def test_texts_that_do_not(self):
        for text in ("", "a", "n", "r", "nr", "ran", "nnn"):
            self.assertIs(Parted(text).shows(("all",), ("care",), "any"), False, text)
        for way in ways(2) + list(LONG_WAYS):
            for kind in KINDS:
                self.assertIs(Parted("arnrn").shows(way, way, kind), False)

    def test_texts_of_another_kind(self):
        texts = ("rn", "rnn", "rrn", "nrn")
        found = [[Parted(text).shows(("all",), ("care",), kind) for kind in KINDS] for text in texts]
        self.assertEqual(found, [[True, False, False, True]] + [[True, False, False, False]] * 3)
        found = [[Parted(text).shows(("all",), ("lones",), kind) for kind in KINDS] for text in ("n", "r", "rn", "")]
        self.assertEqual(found, [[True, True, False, False], [True, False, True, False], [True, False, False, True],
                                 [False] * 4])

    def test_what_is_no_text(self):
        for text in NO_TEXTS + ODD:
            for kind in KINDS:
                self.assertIs(Parted(text).shows(("all", "all"), ("lone",), kind), False, text)

    def test_the_current_text(self):
        found = compare(("all",), ("care",), "any")
        self.assertEqual(found.text, "rn")
        found.text = "an"
        self.assertIs(found.shows(("all",), ("care",), "any"), False)
        found.text = "rna"
        self.assertIs(found.shows(("all",), ("care",), "any"), True)


class ConventionsTest(unittest.TestCase):

    def test_wrong_inputs(self):
        alike, parted = Alike([FIRST]), Parted("n")
        check_refusals(self, [compare, are_alike, first_parting, alike.shows, parted.shows],
                       [((), WRONG_WAYS, errors.BadWay), (("care",), WRONG_WAYS, errors.BadWay),
                        ("any", WRONG_KINDS, errors.BadKind)])
        check_refusals(self, [returns], [((), WRONG_WAYS, errors.BadWay), ("any", WRONG_KINDS, errors.BadKind)])
        self.assertEqual((alike.rows, parted.text), ([FIRST], "n"))

    def test_what_is_refused_is_not_modified(self):
        way, kind = ["pairs"], ["any"]
        for call in (compare, are_alike, first_parting, Alike([]).shows, Parted("").shows):
            self.assertRaises(errors.BadWay, call, way, way, kind)
            self.assertRaises(errors.BadKind, call, (), (), kind)
        self.assertEqual((way, kind), (["pairs"], ["any"]))

    def test_equality(self):
        other = ((), (), True, "", "")
        check_equality(self, [Alike([FIRST, other]), Alike([FIRST, other])],
                       [Alike([]), Alike([FIRST]), Alike([other, FIRST]), Alike([FIRST, other, other]), Parted(""),
                        Parted("n"), [FIRST, other]])
        check_equality(self, [Alike([]), Alike([])], [Alike([FIRST]), Parted("")])
        check_equality(self, [Parted("n"), Parted("n")], [Parted(""), Parted("nn"), Parted("a"), Alike([])])
        self.assertEqual(compare((), (), "paired"), Alike(compare((), (), "paired").rows))

    def test_everything_that_is_returned_is_new(self):
        for one, other in SOME:
            for kind in KINDS:
                first, second = compare(one, other, kind), compare(one, other, kind)
                self.assertIsNot(first, second)
                self.assertEqual(first, second)
                if first.__class__ is Alike:
                    self.assertIsNot(first.rows, second.rows)
                    first.rows.clear()
                else:
                    first.text = ""
                self.assertEqual(compare(one, other, kind), second)
                self.assertIs(second.shows(one, other, kind), True)

    def test_what_is_handed_in_is_not_kept(self):
        rows = [FIRST]
        found = Alike(rows)
        rows.append(FIRST)
        self.assertEqual(found.rows, [FIRST])
        found.rows.clear()
        self.assertEqual(rows, [FIRST, FIRST])


if __name__ == "__main__":
    unittest.main()
