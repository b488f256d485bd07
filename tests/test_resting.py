import unittest

from helper import (LONG_WAYS, NO_TEXTS, ODD, WRONG_KINDS, WRONG_LIMITS, WRONG_ROUNDS, WRONG_TEXTS, WRONG_WAYS, Images,
                    by_places, check_equality, check_refusals, texts, ways)
from turnedends import errors
from turnedends.comparing import Alike, Parted, compare
from turnedends.kinds import KINDS
from turnedends.leading import Leads, Strays
from turnedends.resting import Rests, Restless, least_rounds, rest, rounds

LIMITS = (0, 1, 2, 3, 4)
FIRST = ((), (), False, "", "")
# Ways that rest behind no round, one or two, and such that never rest.
SOME = [(), ("all",), ("both",), ("care",), ("lone",), ("lones",), ("pairs",), ("pairs", "care"), ("all", "pairs"),
        ("care", "lones"), ("care", "lones", "lones"), ("pairs", "all"), ("lone", "all")] + list(LONG_WAYS)


def all_found(wanted):
    """The ways of SOME with a kind, a limit and what rest returns for them, if it is of the class that is wanted."""
    found = [(way, kind, limit, rest(way, kind, limit)) for way in SOME for kind in KINDS for limit in LIMITS]
    return [row for row in found if row[3].__class__ is wanted]


class RoundsTest(unittest.TestCase):

    def test_texts_behind_rounds(self):
        for way in ways(2) + list(LONG_WAYS[:3]):
            for text in texts(3):
                expected, last = [], text
                for many in range(5):
                    self.assertEqual(rounds(way, text, many), expected, (way, text))
                    last = by_places(way, last)
                    expected = expected + [last]

    def test_no_rounds_and_nine(self):
        self.assertEqual(rounds(("all",), "an", 0), [])
        self.assertEqual(rounds(("all",), "an", 9), ["a" + "r" * k + "n" for k in range(1, 10)])
        self.assertEqual(rounds(("pairs",), "rrrn", 9), ["rrn", "rn"] + ["n"] * 7)
        self.assertEqual(rounds((), "arn", 9), ["arn"] * 9)
        self.assertEqual(rounds(("all",) * 6, "n", 9)[-1], "r" * 54 + "n")
        self.assertEqual(rounds(("both",), "", 2), ["", ""])

    def test_each_list_is_a_new_one(self):
        first, second = rounds(("all",), "an", 3), rounds(("all",), "an", 3)
        self.assertIsNot(first, second)
        first.clear()
        self.assertEqual(rounds(("all",), "an", 3), second)

    def test_wrong_inputs(self):
        check_refusals(self, [rounds], [(("care",), WRONG_WAYS, errors.BadWay), ("an", WRONG_TEXTS, errors.BadText),
                                        (2, WRONG_ROUNDS, errors.BadRounds)])
        way, text, many = ["all"], ["a"], [1]
        self.assertRaises(errors.BadWay, rounds, way, text, many)
        self.assertRaises(errors.BadText, rounds, (), text, many)
        self.assertRaises(errors.BadRounds, rounds, (), "", many)
        self.assertEqual((way, text, many), (["all"], ["a"], [1]))


class RestTest(unittest.TestCase):

    def check(self, images, way):
        """What rest and least_rounds tell is what turning all short texts tells."""
        behind = [images.of(way * k) for k in range(6)]
        for kind in KINDS:
            # For each number of rounds, the lengths of the short texts to which one more makes a difference.
            lengths = [[len(text) for text in images.of_kind[kind] if one[text] != more[text]]
                       for one, more in zip(behind, behind[1:])]
            number = least_rounds(way, kind, 4)
            for limit in LIMITS:
                found = rest(way, kind, limit)
                self.assertIs(found.shows(way, kind, limit), True, (way, kind, limit))
                expected = None if number is None or number > limit else number
                self.assertEqual(least_rounds(way, kind, limit), expected, (way, kind, limit))
                self.assertIs(found.__class__, Restless if expected is None else Rests)
                if expected is not None:
                    self.assertEqual(found.number, expected)
            texts_shown = rest(way, kind, 4).texts
            for k, found in enumerate(lengths):
                if number is not None and k >= number:
                    self.assertEqual(found, [], (way, kind, k))
                elif found:
                    self.assertGreaterEqual(len(texts_shown[k]), found[0])
                else:
                    self.assertGreater(len(texts_shown[k]), images.longest, (way, kind, k))

    def test_short_ways(self):
        images = Images(4)
        for way in ways(2) + ways(3)[43::5]:
            self.check(images, way)

    def test_longer_ways(self):
        images = Images(3)
        for way in SOME:
            self.check(images, way)

    def test_least_numbers(self):
        rows = {
            (): [0, 0, 0, 0],
            ("all",): [None, None, 0, None],
            ("both",): [1, 0, 1, 1],
            ("care",): [1, 1, 0, 0],
            ("lone",): [1, 1, 0, 1],
            ("lones",): [1, 0, 1, 0],
            ("pairs",): [None, 0, 0, 1],
            ("pairs", "care"): [None, 1, 0, 0],
            ("all", "pairs"): [0, 0, 0, 0],
            ("care", "lones", "lones"): [2, 1, 2, 0],
        }
        for way, expected in rows.items():
            self.assertEqual([least_rounds(way, kind, 4) for kind in KINDS], expected, way)

    def test_limits(self):
        way = ("care", "lones", "lones")
        self.assertEqual([least_rounds(way, "any", limit) for limit in LIMITS], [None, None, 2, 2, 2])
        self.assertEqual([least_rounds(("both",), "any", limit) for limit in LIMITS], [None, 1, 1, 1, 1])
        self.assertEqual([least_rounds((), "any", limit) for limit in LIMITS], [0] * 5)
        for limit in LIMITS:
            self.assertEqual(len(rest(("all",), "any", limit).texts), limit + 1)
            self.assertEqual(len(rest(("pairs",) * 6, "any", limit).texts), limit + 1)

    def test_no_round_is_needed(self):
        for kind in KINDS:
            found = rest((), kind, 0)
            self.assertEqual((found.number, found.texts), (0, []))
            self.assertEqual(Alike(found.rows), compare((), (), kind))

    def test_ways_of_six_conversions(self):
        six = ("pairs",) * 6
        found = rest(six, "any", 4)
        self.assertEqual([len(text) for text in found.texts], [2, 8, 14, 20, 26])
        self.assertEqual(rest(("all",) * 6, "paired", 4).texts, ["rn"] * 5)
        self.assertEqual([least_rounds(("lones",) * 6, kind, 4) for kind in KINDS], [1, 0, 1, 0])


class RestsTest(unittest.TestCase):

    def test_rows_are_those_of_an_alike(self):
        for way, kind, limit, found in all_found(Rests):
            one, other = way * found.number, way * (found.number + 1)
            if len(other) <= 6:
                self.assertIs(Alike(found.rows).shows(one, other, kind), True)
            for first, second, _, _, _ in found.rows:
                self.assertEqual((len(first), len(second)), (len(one), len(other)))

    def test_what_shows(self):
        self.assertIs(Rests(0, [FIRST], []).shows((), "any", 0), True)
        rows = [((False,), (False, False), False, "", ""), ((True,), (True, False), False, "", "")]
        for text in ("r", "rn", "arr", "nra"):
            self.assertIs(Rests(1, rows, [text]).shows(("both",), "any", 1), True, text)
            self.assertIs(Rests(1, rows, [text]).shows(("both",), "any", 4), True, text)
        self.assertIs(Rests(1, rows, ["rn"]).shows(("both",), "lone", 4), False)
        self.assertIs(Rests(1, rows, ["r"]).shows(("both",), "lone", 4), True)

    def test_rows_are_needed(self):
        for way, kind, limit, found in all_found(Rests):
            for k in range(len(found.rows)):
                left = found.rows[:k] + found.rows[k + 1:]
                self.assertIs(Rests(found.number, left, found.texts).shows(way, kind, limit), False, (way, kind, k))
                first, second, waits, ahead, lag = found.rows[k]
                for row in ((first, second, not waits, ahead, lag), (first, second, waits, ahead + "a", lag),
                            (first, second, waits, ahead, lag + "n"), (first, second, waits, "x", lag)):
                    rows = found.rows[:k] + [row] + found.rows[k + 1:]
                    self.assertIs(Rests(found.number, rows, found.texts).shows(way, kind, limit), False)
            self.assertIs(Rests(found.number, [], found.texts).shows(way, kind, limit), False)
            self.assertIs(Rests(found.number, found.rows * 2, found.texts).shows(way, kind, limit), True)

    def test_rows_that_do_not_show(self):
        rows = rest(("both",), "any", 1).rows
        self.assertIs(Rests(1, rows + [((True,), (False, False), False, "", "")], ["r"]).shows(("both",), "any", 1), False)
        same = [row[:3] + ("n", "n") for row in rows]
        self.assertIs(Rests(1, rows + same, ["r"]).shows(("both",), "any", 1), False)
        # A standing that does not come about: the second both is never brought an r.
        more = ((False,), (False, True), False, "n", "")
        self.assertIs(Rests(1, rows + [more], ["r"]).shows(("both",), "any", 1), False)

    def test_a_standing_that_does_not_come_about(self):
        way = ("pairs", "care")
        rows = rest(way, "lone", 0).rows
        more = ((), (False, True), False, "", "")
        self.assertNotIn(more, rows)
        self.assertIs(Rests(0, rows + [more], []).shows(way, "lone", 0), True)
        self.assertIs(Rests(0, rows + [more[:3] + ("r", "")], []).shows(way, "lone", 0), False)

    def test_texts_are_needed(self):
        for way, kind, limit, found in all_found(Rests):
            for k in range(len(found.texts)):
                left = found.texts[:k] + found.texts[k + 1:]
                self.assertIs(Rests(found.number, found.rows, left).shows(way, kind, limit), False)
                for text in ("", "a", "aaa") + NO_TEXTS + ODD:
                    texts_then = found.texts[:k] + [text] + found.texts[k + 1:]
                    self.assertIs(Rests(found.number, found.rows, texts_then).shows(way, kind, limit), False, text)
            for text in found.texts + ["", "r"]:
                self.assertIs(Rests(found.number, found.rows, found.texts + [text]).shows(way, kind, limit), False)

    def test_the_texts_are_in_order(self):
        found = rest(("care", "lones", "lones"), "any", 4)
        self.assertEqual(found.number, 2)
        self.assertIs(found.shows(("care", "lones", "lones"), "any", 2), True)
        # To each of these texts, only the first round or the second one makes a difference.
        way, kind = ("care", "lones", "lones"), "any"
        by_round = [[text for text in texts(3) if rounds(way, text, 2)[0] != text],
                    [text for text in texts(3) if rounds(way, text, 2)[0] != rounds(way, text, 2)[1]]]
        for first in texts(3):
            for second in texts(3)[::5] + by_round[1]:
                expected = first in by_round[0] and second in by_round[1]
                self.assertIs(Rests(2, found.rows, [first, second]).shows(way, kind, 4), expected, (first, second))

    def test_numbers(self):
        for way, kind, limit, found in all_found(Rests):
            for number in (0, 1, 2, 3, 4, 5, 6, -1, 10 ** 6):
                if number != found.number:
                    self.assertIs(Rests(number, found.rows, found.texts).shows(way, kind, limit), False)
            for number in (None, "1", (1,), True, False, b""):
                self.assertIs(Rests(number, found.rows, found.texts).shows(way, kind, limit), False)
        # Behind a greater number it rests, too; but this is not the least one.
        rows = compare(("both",) * 2, ("both",) * 3, "any").rows
        for second in ("", "r", "rn", "n"):
            self.assertIs(Rests(2, rows, ["r", second]).shows(("both",), "any", 4), False)

    def test_a_number_that_is_not_within_the_limit(self):
        found = rest(("care", "lones", "lones"), "any", 2)
        shown = [found.shows(("care", "lones", "lones"), "any", limit) for limit in LIMITS]
        self.assertEqual(shown, [False, False, True, True, True])
        self.assertIs(rest(("both",), "any", 1).shows(("both",), "any", 0), False)
        self.assertIs(Rests(-1, [], []).shows((), "any", 4), False)
        self.assertIs(Rests(5, compare((), (), "any").rows, ["a"] * 5).shows((), "any", 4), False)

    def test_the_current_attributes(self):
        found = rest(("both",), "any", 1)
        row = found.rows.pop()
        self.assertIs(found.shows(("both",), "any", 1), False)
        found.rows.append(row)
        found.texts[0] = "a"
        self.assertIs(found.shows(("both",), "any", 1), False)
        found.texts = ["arn"]
        self.assertIs(found.shows(("both",), "any", 1), True)
        found.number = 0
        self.assertIs(found.shows(("both",), "any", 1), False)


class RestlessTest(unittest.TestCase):

    def test_what_shows(self):
        self.assertIs(Restless(["n"]).shows(("all",), "any", 0), True)
        self.assertIs(Restless(["n", "an", "nn", "rn", "nr"]).shows(("all",), "any", 4), True)
        self.assertIs(Restless(["r"]).shows(("both",), "any", 0), True)
        self.assertIs(Restless(["rrn", "rrn"]).shows(("pairs",), "any", 1), True)
        self.assertIs(Restless(["rrn", "rn"]).shows(("pairs",), "any", 1), False)

    def test_texts_are_needed(self):
        for way, kind, limit, found in all_found(Restless):
            for k in range(len(found.texts)):
                left = found.texts[:k] + found.texts[k + 1:]
                self.assertIs(Restless(left).shows(way, kind, limit), False, (way, kind, limit))
                for text in ("", "a", "aaa") + NO_TEXTS + ODD:
                    texts_then = found.texts[:k] + [text] + found.texts[k + 1:]
                    self.assertIs(Restless(texts_then).shows(way, kind, limit), False, (way, kind, limit, text))
            self.assertIs(Restless(found.texts + found.texts[-1:]).shows(way, kind, limit), False)
            self.assertIs(Restless([]).shows(way, kind, limit), False)

    def test_each_limit_has_its_own_many(self):
        for many in range(7):
            for limit in LIMITS:
                self.assertIs(Restless(["n"] * many).shows(("all",), "any", limit), many == limit + 1)

    def test_texts_of_another_kind(self):
        for kind, text in (("bare", "rn"), ("lone", "an"), ("paired", "n"), ("paired", "rnn")):
            self.assertIs(Restless([text, text]).shows(("all",), "any", 1), True)
            self.assertIs(Restless([text, text]).shows(("all",), kind, 1), False)
        self.assertIs(Restless(["rn", "rn"]).shows(("all",), "paired", 1), True)

    def test_a_way_that_rests(self):
        for texts_then in (["r"], ["r", "r"], ["r", "rn"], ["rn", "n"]):
            self.assertIs(Restless(texts_then).shows(("both",), "any", 1), False)
        self.assertIs(Restless([""]).shows((), "any", 0), False)

    def test_the_current_texts(self):
        found = rest(("all",), "bare", 2)
        found.texts.pop()
        self.assertIs(found.shows(("all",), "bare", 2), False)
        self.assertIs(found.shows(("all",), "bare", 1), True)
        found.texts = ["nn", "an", "n"]
        self.assertIs(found.shows(("all",), "bare", 2), True)


class ConventionsTest(unittest.TestCase):

    def test_wrong_inputs(self):
        calls = [rest, least_rounds, Rests(0, [FIRST], []).shows, Restless(["n"]).shows]
        check_refusals(self, calls, [(("care",), WRONG_WAYS, errors.BadWay), ("any", WRONG_KINDS, errors.BadKind),
                                     (2, WRONG_LIMITS, errors.BadLimit)])

    def test_what_is_refused_is_not_modified(self):
        way, kind, limit = ["pairs"], ["any"], [1]
        for call in (rest, least_rounds, Rests(0, [], []).shows, Restless([]).shows):
            self.assertRaises(errors.BadWay, call, way, kind, limit)
            self.assertRaises(errors.BadKind, call, (), kind, limit)
            self.assertRaises(errors.BadLimit, call, (), "any", limit)
        self.assertEqual((way, kind, limit), (["pairs"], ["any"], [1]))

    def test_equality(self):
        check_equality(self, [Rests(1, [FIRST], ["n"]), Rests(1, [FIRST], ["n"])],
                       [Rests(2, [FIRST], ["n"]), Rests(1, [], ["n"]), Rests(1, [FIRST], ["r"]), Rests(1, [FIRST], []),
                        Rests(1, [FIRST, FIRST], ["n"]), Restless(["n"]), Alike([FIRST])])
        check_equality(self, [Restless(["n", "r"]), Restless(["n", "r"])],
                       [Restless([]), Restless(["r", "n"]), Restless(["n"]), Restless(["n", "r", "r"])])
        check_equality(self, [Restless([])], [Rests(0, [], []), Alike([]), Leads([]), Parted(""), Strays("")])

    def test_everything_that_is_returned_is_new(self):
        for way in SOME:
            for kind in KINDS:
                first, second = rest(way, kind, 3), rest(way, kind, 3)
                self.assertIsNot(first, second)
                self.assertEqual(first, second)
                self.assertIsNot(first.texts, second.texts)
                first.texts.append("")
                if first.__class__ is Rests:
                    self.assertIsNot(first.rows, second.rows)
                    first.rows.clear()
                self.assertEqual(rest(way, kind, 3), second)
                self.assertIs(second.shows(way, kind, 3), True)

    def test_what_is_handed_in_is_not_kept(self):
        rows, texts_then = [FIRST], ["n"]
        rests, restless = Rests(1, rows, texts_then), Restless(texts_then)
        rows.append(FIRST)
        texts_then.append("r")
        self.assertEqual((rests.rows, rests.texts, restless.texts), ([FIRST], ["n"], ["n"]))
        rests.rows.clear()
        rests.texts.clear()
        restless.texts.clear()
        self.assertEqual((rows, texts_then), ([FIRST, FIRST], ["n", "r"]))


if __name__ == "__main__":
    unittest.main()
