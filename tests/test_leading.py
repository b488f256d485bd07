import re
import unittest

from helper import (LONG_WAYS, NEITHER, NO_TEXTS, ODD, PATTERNS, WRONG_KINDS, WRONG_WAYS, Images, check_equality,
                    check_refusals, signs_behind, texts, texts_of, ways)
from turnedends import errors
from turnedends.comparing import Alike, Parted
from turnedends.kinds import KINDS
from turnedends.leading import Leads, Strays, does_lead, first_stray, lead
from turnedends.ways import at_end, read

FIRST = ((), False, False)
SOME = [(), ("all",), ("both",), ("care",), ("lone",), ("lones",), ("pairs",), ("both", "care"), ("both", "all"),
        ("lone", "lones"), ("pairs", "care"), ("lones", "all"), ("pairs", "pairs")] + list(LONG_WAYS)
PAIRS_OF_KINDS = [(kind, other) for kind in KINDS for other in KINDS]


def out_behind(other, waits, given):
    """The second boolean behind what is given out, None if it cannot come."""
    for sign in given:
        if sign not in signs_behind(other, waits):
            return None
        waits = other == "paired" and sign == "r"
    return waits


def do_show(way, kind, other, places):
    """Whether places show that a way leads, from the words of the document."""
    if ((False,) * len(way), False, False) not in places:
        return False
    for standing, waits, out_waits in places:
        for sign in signs_behind(kind, waits):
            behind, given = read(way, standing, sign)
            out = out_behind(other, out_waits, given)
            if out is None or (behind, kind == "paired" and sign == "r", out) not in places:
                return False
        if not waits and out_behind(other, out_waits, at_end(way, standing)) is not False:
            return False
    return True


def all_leads():
    """The ways of SOME with two kinds of which the one is led into the other one, and the Leads."""
    found = [(way, kind, other, lead(way, kind, other)) for way in SOME for kind, other in PAIRS_OF_KINDS]
    return [row for row in found if row[3].__class__ is Leads]


def changed(way, place):
    """All triples that differ from a place in one boolean."""
    standing, waits, out_waits = place
    found = [(standing[:k] + (not standing[k],) + standing[k + 1:], waits, out_waits)
             for k, word in enumerate(way) if word not in NEITHER]
    return found + [(standing, not waits, out_waits), (standing, waits, not out_waits)]


class LeadTest(unittest.TestCase):

    def check(self, images, way):
        """What lead and the others tell is what turning all short texts of a kind tells."""
        image = images.of(way)
        for kind, other in PAIRS_OF_KINDS:
            pattern = re.compile(PATTERNS[other])
            lengths = [len(text) for text in images.of_kind[kind] if not pattern.fullmatch(image[text])]
            found = lead(way, kind, other)
            least = first_stray(way, kind, other)
            self.assertIs(found.shows(way, kind, other), True, (way, kind, other))
            self.assertIs(does_lead(way, kind, other), found.__class__ is Leads)
            if lengths:
                self.assertEqual(least, lengths[0], (way, kind, other))
            else:
                self.assertTrue(least is None or least > images.longest, (way, kind, other))
            if least is None:
                self.assertIs(found.__class__, Leads)
            else:
                self.assertIs(found.__class__, Strays)
                self.assertGreaterEqual(len(found.text), least)

    def test_all_short_ways(self):
        images = Images(5)
        for way in ways(3):
            self.check(images, way)

    def test_longer_ways(self):
        images = Images(6)
        for way in SOME + ways(4)[259::13]:
            self.check(images, way)

    def test_the_way_of_no_conversions(self):
        found = [[first_stray((), kind, other) for other in KINDS] for kind in KINDS]
        self.assertEqual(found, [[None, 1, 1, 1], [None, None, 1, 1], [None, 1, None, 1], [None, 2, 2, None]])
        self.assertEqual(sorted(lead((), "paired", "paired").places), [FIRST, ((), True, True)])
        self.assertEqual(sorted(lead((), "paired", "any").places), [FIRST, ((), True, False)])
        self.assertEqual(lead((), "bare", "any").places, [FIRST])

    def test_each_way_leads_each_kind_into_any(self):
        for way in ways(2) + list(LONG_WAYS):
            for kind in KINDS:
                self.assertIs(does_lead(way, kind, "any"), True)

    def test_ways_of_six_conversions(self):
        six = ("pairs",) * 6
        self.assertEqual([first_stray(six, kind, "bare") for kind in KINDS], [1, None, 1, None])
        self.assertEqual([first_stray(("all",) * 6, kind, "paired") for kind in KINDS], [1, 1, 1, 2])
        self.assertIs(does_lead(("lone", "lones", "all", "lone", "lones", "all"), "any", "paired"), True)
        self.assertEqual(first_stray(("care", "care", "care", "care", "care", "pairs"), "bare", "bare"), None)

    def test_what_has_strayed_while_an_n_is_waited_for(self):
        # The r strays at once, but no text of the first kind ends with it.
        self.assertEqual(first_stray((), "paired", "bare"), 2)
        self.assertEqual(first_stray(("all",), "paired", "bare"), 2)
        self.assertEqual(lead((), "paired", "bare").text, "rn")

    def test_what_is_given_out_at_the_end(self):
        self.assertEqual(first_stray(("pairs",), "any", "bare"), 1)
        self.assertEqual(first_stray(("both",), "lone", "lone"), 1)
        self.assertIs(does_lead(("pairs",), "lone", "lone"), True)
        self.assertEqual(first_stray(("pairs",), "lone", "paired"), 1)


class LeadsTest(unittest.TestCase):

    def test_the_places_are_those_behind_all_texts(self):
        for way, kind, other, found in all_leads():
            self.assertIs(found.places.__class__, list)
            self.assertTrue(do_show(way, kind, other, found.places), (way, kind, other))
            rest = "r" if kind == "paired" else ""
            for text in texts_of(kind, 4) + [text + rest for text in texts_of(kind, 4)]:
                standing, waits, out_waits = (False,) * len(way), False, False
                for sign in text:
                    standing, given = read(way, standing, sign)
                    waits = kind == "paired" and sign == "r"
                    out_waits = out_behind(other, out_waits, given)
                self.assertIn((standing, waits, out_waits), found.places, (way, kind, other, text))

    def test_places_that_show(self):
        self.assertIs(Leads([FIRST]).shows((), "any", "any"), True)
        self.assertIs(Leads([FIRST, ((), True, True)]).shows((), "paired", "paired"), True)
        both = [((False,), False, False), ((True,), False, False)]
        self.assertIs(Leads(both).shows(("both",), "any", "bare"), True)
        self.assertIs(Leads(both).shows(("pairs",), "lone", "lone"), True)
        self.assertIs(Leads([((False, False), False, False), ((True, False), False, False)]).shows(
            ("both", "all"), "any", "paired"), True)

    def test_places_are_needed(self):
        for way, kind, other, found in all_leads():
            for k in range(len(found.places)):
                left = found.places[:k] + found.places[k + 1:]
                self.assertIs(Leads(left).shows(way, kind, other), False, (way, kind, other, k))

    def test_places_that_are_changed_or_more(self):
        for way, kind, other, found in all_leads():
            for k, place in enumerate(found.places):
                for new in changed(way, place):
                    places = found.places[:k] + [new] + found.places[k + 1:]
                    self.assertIs(Leads(places).shows(way, kind, other), False, (way, kind, other, place, new))
                    expected = do_show(way, kind, other, found.places + [new])
                    self.assertIs(Leads(found.places + [new]).shows(way, kind, other), expected, (way, kind, other, new))

    def test_places_more_than_once_and_in_any_order(self):
        for way, kind, other, found in all_leads():
            self.assertIs(Leads(found.places * 3).shows(way, kind, other), True)
            self.assertIs(Leads(found.places[::-1] + found.places[:1]).shows(way, kind, other), True)

    def test_no_places(self):
        for way in SOME:
            for kind, other in PAIRS_OF_KINDS:
                self.assertIs(Leads([]).shows(way, kind, other), False)

    def test_places_without_the_first_one(self):
        self.assertIs(Leads([((), True, False)]).shows((), "any", "any"), False)
        self.assertIs(Leads([((), False, True)]).shows((), "any", "any"), False)

    def test_what_cannot_come(self):
        self.assertIs(Leads([FIRST]).shows((), "any", "bare"), False)
        self.assertIs(Leads([FIRST]).shows((), "any", "lone"), False)
        self.assertIs(Leads([FIRST, ((), False, True)]).shows((), "any", "paired"), False)
        self.assertIs(Leads([((False,), False, False)]).shows(("all",), "bare", "bare"), False)
        # One sign that is given out can come, and another one directly behind it cannot.
        self.assertIs(Leads([((False, False), False, False)]).shows(("all", "all"), "bare", "paired"), False)

    def test_the_end(self):
        # Closed, and nothing strays but what is given out at the end.
        places = [((False,), False, False), ((True,), False, False)]
        self.assertIs(Leads(places).shows(("both",), "lone", "bare"), True)
        self.assertIs(Leads(places[:1]).shows(("both",), "bare", "bare"), True)
        self.assertIs(Leads(places).shows(("pairs",), "bare", "bare"), False)
        self.assertIs(Leads(places).shows(("pairs",), "bare", "lone"), False)
        # An n is waited for at the end, and none is given out.
        places = [((False,), False, False), ((True,), True, False), ((True,), False, False)]
        self.assertIs(Leads(places[:2]).shows(("pairs",), "paired", "bare"), True)
        self.assertIs(Leads(places).shows(("pairs",), "paired", "bare"), False)
        self.assertIs(Leads([FIRST, ((), True, True), ((), False, True)]).shows((), "paired", "paired"), False)

    def test_what_waits_has_no_end(self):
        places = [((False,), False, False), ((True,), True, False)]
        self.assertIs(Leads(places).shows(("pairs",), "paired", "bare"), True)
        self.assertIs(Leads(places).shows(("pairs",), "paired", "any"), True)

    def test_a_second_boolean_that_is_more_than_needed(self):
        # It stays True while nothing is given out, so it is not False behind the end, whatever the kind is.
        for other in ("any", "bare"):
            self.assertIs(Leads([FIRST, ((), False, True)]).shows((), "bare", other), False)
            self.assertIs(Leads([FIRST, ((), True, True)]).shows((), "bare", other), True)
        self.assertIs(Leads([FIRST, ((), True, True)]).shows((), "any", "any"), True)
        both = [((False,), False, False), ((True,), False, False), ((True,), False, True)]
        self.assertIs(Leads(both[:2]).shows(("both",), "any", "any"), True)
        # The r that is held back is given out by each sign or at the end, so that the boolean is False behind it.
        self.assertIs(Leads(both).shows(("both",), "any", "any"), True)

    def test_a_standing_that_does_not_come_about(self):
        way = ("pairs", "care")
        places = lead(way, "any", "any").places
        for more in (((False, True), False, False), ((False, True), True, False), ((False, True), True, True)):
            self.assertNotIn(more, places)
        self.assertIs(Leads(places + [((False, True), False, False)]).shows(way, "any", "any"), True)
        places = lead(way, "bare", "paired").places
        self.assertIs(Leads(places + [((False, True), True, True)]).shows(way, "bare", "paired"), False)
        self.assertIs(Leads(places + [((False, True), False, False)]).shows(way, "bare", "paired"), False)

    def test_what_is_no_place(self):
        first = ((False,), False, False)
        for place in ODD + ((), first[:2], first + (False,), ((), False, False), ((True,), False, False),
                            ((0,), False, False), ((False,), 0, False), ((False,), False, 0), list(first)):
            self.assertIs(Leads([first, place]).shows(("all",), "any", "any"), False, place)

    def test_places_of_other_kinds(self):
        found = lead(("all",), "bare", "paired")
        self.assertIs(found.shows(("all",), "bare", "paired"), True)
        self.assertIs(found.shows(("all",), "any", "paired"), False)
        self.assertIs(found.shows(("all",), "bare", "lone"), False)
        self.assertIs(found.shows(("lone",), "bare", "paired"), False)

    def test_the_current_places(self):
        found = lead(("both",), "any", "bare")
        last = found.places.pop()
        self.assertIs(found.shows(("both",), "any", "bare"), False)
        found.places = [last, last] + found.places
        self.assertIs(found.shows(("both",), "any", "bare"), True)


class StraysTest(unittest.TestCase):

    def test_all_short_texts(self):
        images = Images(3)
        for way in ways(2) + list(LONG_WAYS):
            for kind, other in PAIRS_OF_KINDS:
                for text in texts(3):
                    out = images.of(way)[text]
                    expected = (re.fullmatch(PATTERNS[kind], text) is not None
                                and re.fullmatch(PATTERNS[other], out) is None)
                    self.assertIs(Strays(text).shows(way, kind, other), expected, (way, kind, other, text))

    def test_a_text_of_another_kind(self):
        self.assertIs(Strays("rn").shows(("all",), "paired", "paired"), True)
        for text in ("r", "n", "nr", "rrn", "arnr"):
            self.assertIs(Strays(text).shows(("all", "all"), "paired", "paired"), False, text)
        self.assertIs(Strays("r").shows((), "bare", "bare"), False)

    def test_a_text_that_does_not_stray(self):
        for text in ("", "a", "aaa"):
            self.assertIs(Strays(text).shows(("all",), "paired", "paired"), False)

    def test_what_is_no_text(self):
        for text in NO_TEXTS + ODD:
            for kind, other in PAIRS_OF_KINDS:
                self.assertIs(Strays(text).shows(("all",), kind, other), False, text)

    def test_the_current_text(self):
        found = lead(("all",), "paired", "paired")
        self.assertEqual(found.text, "rn")
        found.text = "a"
        self.assertIs(found.shows(("all",), "paired", "paired"), False)
        found.text = "aarn"
        self.assertIs(found.shows(("all",), "paired", "paired"), True)


class ConventionsTest(unittest.TestCase):

    def test_wrong_inputs(self):
        check_refusals(self, [lead, does_lead, first_stray, Leads([FIRST]).shows, Strays("n").shows],
                       [(("care",), WRONG_WAYS, errors.BadWay), ("any", WRONG_KINDS, errors.BadKind),
                        ("bare", WRONG_KINDS, errors.BadKind)])

    def test_what_is_refused_is_not_modified(self):
        way, kind = ["pairs"], ["any"]
        for call in (lead, does_lead, first_stray, Leads([]).shows, Strays("").shows):
            self.assertRaises(errors.BadWay, call, way, kind, kind)
            self.assertRaises(errors.BadKind, call, (), kind, kind)
            self.assertRaises(errors.BadKind, call, (), "any", kind)
        self.assertEqual((way, kind), (["pairs"], ["any"]))

    def test_equality(self):
        other = ((), True, True)
        check_equality(self, [Leads([FIRST, other]), Leads([FIRST, other])],
                       [Leads([]), Leads([FIRST]), Leads([other, FIRST]), Leads([FIRST, other, FIRST]), Strays(""),
                        Alike([FIRST, other])])
        check_equality(self, [Leads([])], [Alike([]), Strays("")])
        check_equality(self, [Strays("n"), Strays("n")], [Strays(""), Strays("r"), Parted("n"), Leads([])])

    def test_everything_that_is_returned_is_new(self):
        for way in SOME:
            for kind, other in PAIRS_OF_KINDS:
                first, second = lead(way, kind, other), lead(way, kind, other)
                self.assertIsNot(first, second)
                self.assertEqual(first, second)
                if first.__class__ is Leads:
                    self.assertIsNot(first.places, second.places)
                    first.places.clear()
                else:
                    first.text = ""
                self.assertEqual(lead(way, kind, other), second)
                self.assertIs(second.shows(way, kind, other), True)

    def test_what_is_handed_in_is_not_kept(self):
        places = [FIRST]
        found = Leads(places)
        places.append(FIRST)
        self.assertEqual(found.places, [FIRST])
        found.places.clear()
        self.assertEqual(places, [FIRST, FIRST])


if __name__ == "__main__":
    unittest.main()
