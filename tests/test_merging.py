import re
import unittest
from itertools import combinations, permutations, product
from os.path import commonprefix

from helper import (LONG_WAYS, NO_TEXTS, ODD, PATTERNS, WRONG_KINDS, WRONG_WAYS, Images, check_equality,
                    check_refusals, flipped_places, moves_at, places_of, texts, texts_of, ways)
from turnedends import errors
from turnedends.comparing import Alike, Parted
from turnedends.kinds import KINDS
from turnedends.leading import Leads, Strays
from turnedends.merging import Distinct, Merged, does_merge, least_merging, merge
from turnedends.ways import at_end, read, turned

START = ((), False)
# All chases of the way of no conversions, for each kind: none goes on.
OF_NONE = {"any": [(START, None, "a", ""), (START, None, "n", ""), (START, None, "r", "")],
           "bare": [(START, None, "a", ""), (START, None, "n", "")],
           "lone": [(START, None, "a", ""), (START, None, "r", "")],
           "paired": [(START, None, "a", ""), (((), True), None, "r", "")]}
SOME = [(), ("all",), ("both",), ("care",), ("lone",), ("lones",), ("pairs",), ("all", "pairs"), ("all", "all", "pairs"),
        ("pairs", "pairs"), ("pairs", "lones"), ("both", "lone"), ("lone", "lones", "pairs"), ("care", "lone")]
SOME += list(LONG_WAYS)


def cut(first, second, ahead, lag):
    """A list of the chase with two places and what both have given out; an empty one if there is none."""
    size = len(commonprefix([ahead, lag]))
    return [] if ahead[size:] and lag[size:] else [(first, second, ahead[size:], lag[size:])]


def doing(way, kind, place):
    """What a reader can do: it reads a sign, or its text is over; the places behind, and what is given out."""
    found = [(behind, given) for _, behind, given in moves_at(way, kind, place)]
    return found + ([] if place[1] else [(None, at_end(way, place[0]))])


def beginning(way, kind, place):
    """The chases that begin at a place, from the words of the document."""
    found = []
    rows = moves_at(way, kind, place)
    for (_, first, given), (_, second, other_given) in combinations(rows, 2):
        found += cut(first, second, given, other_given)
    if not place[1]:
        for _, first, given in rows:
            found += cut(first, None, given, at_end(way, place[0]))
    return found


def going_on(way, kind, chase):
    """The chases as which a chase goes on, from the words of the document."""
    first, second, ahead, lag = chase
    if first is not None and not ahead:
        return [one for behind, given in doing(way, kind, first) for one in cut(behind, second, given, lag)]
    if second is not None and not lag:
        return [one for behind, given in doing(way, kind, second) for one in cut(first, behind, ahead, given)]
    return []


def do_show(way, kind, chases):
    """Whether chases show that a way does not merge a kind, from the words of the document."""
    wanted = [chase for place in places_of(way, kind) for chase in beginning(way, kind, place)]
    for chase in chases:
        first, second, ahead, lag = chase
        if set(ahead + lag) - set("anr") or ahead and lag or chase == (None, None, "", ""):
            return False
        wanted += going_on(way, kind, chase)
    return all(chase in chases for chase in wanted)


def chase_of(way, kind, one, other):
    """The chases of two different texts: of the one that begins, and of all as which it goes on for these texts."""
    size = len(commonprefix([one, other]))
    if one[size:size + 1] > other[size:size + 1] > "" or one[size:] == "":
        one, other = other, one
    place = ((False,) * len(way), False)
    for sign in one[:size]:
        place = {word: behind for word, behind, _ in moves_at(way, kind, place)}[sign]
    readers = [[place, list(one[size:])], [place, list(other[size:])]]
    given = ["", ""]
    chases = []

    def act(k):
        place, signs = readers[k]
        if signs:
            standing, out = read(way, place[0], signs[0])
            readers[k] = [(standing, kind == "paired" and signs[0] == "r"), signs[1:]]
        else:
            out = at_end(way, place[0])
            readers[k] = [None, []]
        given[k] += out

    act(0)
    act(1)
    while True:
        found = cut(readers[0][0], readers[1][0], *given)
        chases += found
        if not found:
            return chases
        given = list(found[0][2:])
        if readers[0][0] is not None and not given[0]:
            act(0)
        elif readers[1][0] is not None and not given[1]:
            act(1)
        else:
            return chases


def changed(way, chase):
    """Many chases that differ from a chase in one item."""
    first, second, ahead, lag = chase
    start = ((False,) * len(way), False)
    found = [(place, second, ahead, lag) for place in ([start] if first is None else flipped_places(way, first) + [None])]
    found += [(first, place, ahead, lag) for place in ([start] if second is None else flipped_places(way, second) + [None])]
    for text in ("", "a", "n", "r", ahead + "a", "n" + lag, "x"):
        found += [(first, second, text, lag)] if text != ahead else []
        found += [(first, second, ahead, text)] if text != lag else []
    return found


def all_distinct(some=None):
    found = [(way, kind, merge(way, kind)) for way in (SOME if some is None else some) for kind in KINDS]
    return [row for row in found if row[2].__class__ is Distinct]


def least_by_images(image, of_kind):
    """The least number of signs of two texts together that have the same image, None if there are none."""
    first, least = {}, []
    for text in of_kind:
        if image[text] in first:
            least.append(len(first[image[text]]) + len(text))
        first.setdefault(image[text], text)
    return min(least, default=None)


class MergeTest(unittest.TestCase):

    def check(self, images, way):
        """What merge and the others tell is what turning all short texts of a kind tells."""
        for kind in KINDS:
            expected = least_by_images(images.of(way), images.of_kind[kind])
            found = merge(way, kind)
            least = least_merging(way, kind)
            self.assertIs(found.shows(way, kind), True, (way, kind))
            self.assertIs(does_merge(way, kind), found.__class__ is Merged)
            if expected is not None and expected <= images.longest:
                self.assertEqual(least, expected, (way, kind))
            else:
                self.assertTrue(least is None or least > images.longest, (way, kind))
            if least is None:
                self.assertIs(found.__class__, Distinct)
                self.assertIsNone(expected)
            else:
                self.assertIs(found.__class__, Merged)
                self.assertGreaterEqual(len(found.one) + len(found.other), least)

    def test_all_short_ways(self):
        images = Images(5)
        for way in ways(3):
            self.check(images, way)

    def test_longer_ways(self):
        images = Images(6)
        for way in SOME + ways(4)[259::11]:
            self.check(images, way)

    def test_the_way_of_no_conversions(self):
        for kind in KINDS:
            self.assertIs(does_merge((), kind), False)
            self.assertIsNone(least_merging((), kind))
            self.assertEqual(sorted(merge((), kind).chases), OF_NONE[kind])

    def test_ways_of_six_conversions(self):
        self.assertEqual([least_merging(("all",) * 6, kind) for kind in KINDS], [None] * 4)
        self.assertEqual([least_merging(("pairs",) * 6, kind) for kind in KINDS], [3, None, None, None])
        self.assertEqual([least_merging(("both",) * 6, kind) for kind in KINDS], [2, None, None, None])
        self.assertEqual([least_merging(("all",) * 4 + ("pairs", "lone"), kind) for kind in KINDS],
                         [4, None, None, None])

    def test_the_fewest_signs(self):
        found = [[least_merging((word,), kind) for kind in KINDS] for word in ("both", "care", "lone", "lones", "pairs")]
        self.assertEqual(found, [[count, None, None, None] for count in (2, 3, 2, 2, 3)])
        self.assertEqual(least_merging(("all", "lone"), "any"), 3)
        found = merge(("all", "lone"), "any")
        self.assertEqual(sorted([found.one, found.other]), ["n", "rr"])
        # Of two texts with as many signs, and of one sign and three.
        self.assertEqual(least_merging(("all", "all", "lone"), "any"), 4)
        for one, other in (("nr", "rn"), ("n", "rrr")):
            self.assertIs(Merged(one, other).shows(("all", "all", "lone"), "any"), True)


class DistinctTest(unittest.TestCase):

    def test_the_chases_are_those_of_all_texts(self):
        for way, kind, found in all_distinct(ways(2) + SOME):
            self.assertIs(found.chases.__class__, list)
            self.assertTrue(do_show(way, kind, found.chases), (way, kind))
            for one, other in combinations(texts_of(kind, 3), 2):
                chases = chase_of(way, kind, one, other)
                self.assertEqual(chases, chase_of(way, kind, other, one))
                for chase in chases:
                    self.assertIn(chase, found.chases, (way, kind, one, other))

    def test_texts_that_merge_are_caught(self):
        for way in ways(2) + SOME:
            found = merge(way, "any")
            if found.__class__ is Merged:
                self.assertEqual(chase_of(way, "any", found.one, found.other)[-1], (None, None, "", ""), way)

    def test_chases_that_show(self):
        for kind in KINDS:
            for chases in permutations(OF_NONE[kind]):
                self.assertIs(Distinct(list(chases)).shows((), kind), True)
        place = ((False,), False)
        # The n of the first text gives out what begins with all that the r of the second one gives out.
        chases = [(place, None, "a", ""), (place, None, "rn", ""), (place, None, "r", ""), (place, place, "n", ""),
                  (place, None, "n", "")]
        self.assertIs(Distinct(chases).shows(("all",), "any"), True)
        self.assertEqual(sorted(merge(("all",), "any").chases, key=str), sorted(chases, key=str))
        self.assertIs(Distinct([row for row in chases if row[1] is None][:2]).shows(("all",), "bare"), True)

    def test_chases_are_needed(self):
        for way, kind, found in all_distinct():
            for k in range(len(found.chases)):
                left = found.chases[:k] + found.chases[k + 1:]
                self.assertIs(Distinct(left).shows(way, kind), False, (way, kind, k))

    def test_chases_that_are_changed_or_more(self):
        for way, kind, found in all_distinct():
            for k, chase in enumerate(found.chases):
                for new in changed(way, chase):
                    chases = found.chases[:k] + [new] + found.chases[k + 1:]
                    self.assertIs(Distinct(chases).shows(way, kind), False, (way, kind, chase, new))
                    expected = do_show(way, kind, found.chases + [new])
                    self.assertIs(Distinct(found.chases + [new]).shows(way, kind), expected, (way, kind, new))

    def test_chases_more_than_once_and_in_any_order(self):
        for way, kind, found in all_distinct():
            self.assertIs(Distinct(found.chases * 3).shows(way, kind), True)
            self.assertIs(Distinct(found.chases[::-1] + found.chases[:1]).shows(way, kind), True)

    def test_no_chases(self):
        for way in SOME:
            for kind in KINDS:
                self.assertIs(Distinct([]).shows(way, kind), False)

    def test_a_chase_of_which_no_text_is_empty(self):
        for kind in KINDS:
            for first, second in product((START, ((), True), None), repeat=2):
                for ahead, lag in (("a", "a"), ("a", "n"), ("rn", "r")):
                    chases = OF_NONE[kind] + [(first, second, ahead, lag)]
                    self.assertIs(Distinct(chases).shows((), kind), False, (kind, first, second))

    def test_a_chase_with_what_is_no_text(self):
        for kind in KINDS:
            for text in NO_TEXTS:
                for chase in ((START, None, text, ""), (None, START, "", text), (None, None, text, ""),
                              (None, None, "", text)):
                    self.assertIs(Distinct(OF_NONE[kind] + [chase]).shows((), kind), False)
                    self.assertIs(Distinct([chase]).shows((), kind), False)

    def test_a_chase_that_is_caught(self):
        for kind in KINDS:
            self.assertIs(Distinct(OF_NONE[kind] + [(None, None, "", "")]).shows((), kind), False)
            self.assertIs(Distinct([(None, None, "", "")] + OF_NONE[kind]).shows((), kind), False)
        # Closed, with all chases that come about; but some of them are caught.
        for way in (("pairs",), ("both",), ("care",), ("lone",)):
            chases = [chase for place in places_of(way, "any") for chase in beginning(way, "any", place)]
            for chase in chases:
                chases += [behind for behind in going_on(way, "any", chase) if behind not in chases]
            self.assertIn((None, None, "", ""), chases)
            self.assertIs(Distinct(chases).shows(way, "any"), False)
            chases = [chase for chase in chases if chase != (None, None, "", "")]
            self.assertIs(Distinct(chases).shows(way, "any"), False)

    def test_both_are_over_and_one_is_ahead(self):
        # It is not caught, and does not go on.
        for kind in KINDS:
            for chase in ((None, None, "a", ""), (None, None, "", "rn"), (None, START, "a", "")):
                expected = do_show((), kind, OF_NONE[kind] + [chase])
                self.assertIs(Distinct(OF_NONE[kind] + [chase]).shows((), kind), expected)
            self.assertIs(Distinct(OF_NONE[kind] + [(None, None, "a", "")]).shows((), kind), True)
            self.assertIs(Distinct(OF_NONE[kind] + [(None, START, "", "a")]).shows((), kind), True)

    def test_it_cannot_be_over_while_an_n_is_waited_for(self):
        # With the kind paired, the second text of this chase goes on with an n, and with nothing else.
        waits = ((), True)
        self.assertIs(Distinct(OF_NONE["paired"] + [(None, waits, "r", "")]).shows((), "paired"), True)
        self.assertIs(Distinct(OF_NONE["paired"] + [(None, waits, "n", "")]).shows((), "paired"), False)
        self.assertIs(Distinct(OF_NONE["paired"] + [(None, START, "", "")]).shows((), "paired"), False)
        # With another kind, the boolean tells the same of the end, and nothing of the signs.
        for kind in ("any", "bare", "lone"):
            self.assertIs(Distinct(OF_NONE[kind] + [(waits, None, "", "")]).shows((), kind), True)
            self.assertIs(Distinct(OF_NONE[kind] + [(START, None, "", "")]).shows((), kind), False)
            # The first one reads this very sign, and is over then.
            self.assertIs(Distinct(OF_NONE[kind] + [(waits, None, "", "a")]).shows((), kind), False)
            # Neither sign that can come is this one.
            self.assertIs(Distinct(OF_NONE[kind] + [(waits, None, "", "r")]).shows((), kind), kind == "bare")

    def test_a_standing_that_does_not_come_about(self):
        way = ("pairs", "care")
        found = merge(way, "bare")
        more = ((False, True), False)
        self.assertNotIn(more, places_of(way, "bare"))
        for ahead, lag in (("a", ""), ("n", ""), ("", "a")):
            chase = (more, None, ahead, lag)
            expected = do_show(way, "bare", found.chases + [chase])
            self.assertIs(Distinct(found.chases + [chase]).shows(way, "bare"), expected)
        self.assertIs(Distinct(found.chases + [(more, None, "a", "")]).shows(way, "bare"), True)

    def test_what_is_no_chase(self):
        place = ((False,), False)
        chases = merge(("all",), "any").chases
        for chase in ODD + ((), (place, None, ""), (place, None, "a", "", ""), [place, None, "a", ""],
                            (START, None, "a", ""), (((True,), False), None, "a", ""), (((0,), False), None, "a", ""),
                            (((False,), 0), None, "a", ""), (None, ((False,), 0), "", "a"), (place, False, "a", ""),
                            (place, (), "a", ""), ((False,), None, "a", ""), (place + (False,), None, "a", ""),
                            (None, None, None, "a"), (None, None, "a", None), (None, None, b"", "a")):
            self.assertIs(Distinct(chases + [chase]).shows(("all",), "any"), False, chase)

    def test_chases_of_other_ways_and_kinds(self):
        found = merge(("all",), "any")
        self.assertIs(found.shows(("all",), "any"), True)
        self.assertIs(found.shows(("lone",), "any"), False)
        self.assertIs(found.shows((), "any"), False)
        self.assertIs(found.shows(("all",), "paired"), False)
        self.assertIs(merge(("all",), "bare").shows(("all",), "any"), False)
        self.assertIs(merge(("all",), "paired").shows(("all",), "any"), False)

    def test_the_current_chases(self):
        found = merge(("all",), "any")
        last = found.chases.pop()
        self.assertIs(found.shows(("all",), "any"), False)
        found.chases = [last, last] + found.chases
        self.assertIs(found.shows(("all",), "any"), True)
        found.chases.clear()
        self.assertIs(found.shows(("all",), "any"), False)


class MergedTest(unittest.TestCase):

    def test_all_short_texts(self):
        for way in ways(1) + [("pairs", "care"), ("all", "lone"), LONG_WAYS[0]]:
            for kind in KINDS:
                for one, other in product(texts(2), repeat=2):
                    both = [re.fullmatch(PATTERNS[kind], text) is not None for text in (one, other)]
                    expected = all(both) and one != other and turned(way, one) == turned(way, other)
                    self.assertIs(Merged(one, other).shows(way, kind), expected, (way, kind, one, other))

    def test_two_equal_texts(self):
        for way in ways(1) + list(LONG_WAYS):
            for kind in KINDS:
                for text in ("", "a", "rn", "n", "r"):
                    self.assertIs(Merged(text, text).shows(way, kind), False)

    def test_texts_of_another_kind(self):
        self.assertEqual([Merged("n", "r").shows(("both",), kind) for kind in KINDS], [True, False, False, False])
        self.assertEqual([Merged("n", "rn").shows(("both",), kind) for kind in KINDS], [True, False, False, False])
        self.assertEqual([Merged("rn", "n").shows(("both",), kind) for kind in KINDS], [True, False, False, False])
        self.assertEqual([Merged("r", "rn").shows(("both",), kind) for kind in KINDS], [True, False, False, False])

    def test_in_both_orders_and_longer_ones(self):
        for one, other in (("n", "rn"), ("rn", "n"), ("n" * 300 + "arn", "n" * 300 + "an"), ("rnn", "nrn")):
            self.assertIs(Merged(one, other).shows(("pairs",), "any"), True)
        for one, other in (("n", "r"), ("", "r"), ("rrn", "n"), ("a", "aa")):
            self.assertIs(Merged(one, other).shows(("pairs",), "any"), False)
        self.assertIs(Merged("rrn", "n").shows(("pairs", "pairs"), "any"), True)

    def test_what_is_no_text(self):
        for text in NO_TEXTS + ODD:
            for kind in KINDS:
                self.assertIs(Merged(text, "n").shows(("both",), kind), False, text)
                self.assertIs(Merged("n", text).shows(("both",), kind), False, text)
                self.assertIs(Merged(text, text).shows(("both",), kind), False, text)

    def test_the_current_texts(self):
        found = merge(("care",), "any")
        self.assertEqual(sorted([found.one, found.other]), ["n", "rn"])
        found.one = found.other
        self.assertIs(found.shows(("care",), "any"), False)
        found.one, found.other = "an", "arn"
        self.assertIs(found.shows(("care",), "any"), True)
        found.other = "an"
        self.assertIs(found.shows(("care",), "any"), False)


class ConventionsTest(unittest.TestCase):

    def test_wrong_inputs(self):
        calls = [merge, does_merge, least_merging, Distinct(OF_NONE["any"]).shows, Merged("n", "r").shows]
        check_refusals(self, calls, [(("care",), WRONG_WAYS, errors.BadWay), ("any", WRONG_KINDS, errors.BadKind)])

    def test_what_is_refused_is_not_modified(self):
        way, kind = ["pairs"], ["any"]
        distinct, merged = Distinct(OF_NONE["any"]), Merged("n", "r")
        for call in (merge, does_merge, least_merging, distinct.shows, merged.shows):
            self.assertRaises(errors.BadWay, call, way, kind)
            self.assertRaises(errors.BadKind, call, (), kind)
        self.assertEqual((way, kind), (["pairs"], ["any"]))
        self.assertEqual((distinct.chases, merged.one, merged.other), (OF_NONE["any"], "n", "r"))

    def test_equality(self):
        chase, other = OF_NONE["bare"]
        check_equality(self, [Distinct([chase, other]), Distinct([chase, other])],
                       [Distinct([]), Distinct([chase]), Distinct([other, chase]), Distinct([chase, other, other]),
                        Merged("", ""), Leads([chase, other]), Alike([chase, other])])
        check_equality(self, [Distinct([])], [Leads([]), Alike([]), Merged("", ""), Strays("")])
        check_equality(self, [Merged("n", "r"), Merged("n", "r")],
                       [Merged("r", "n"), Merged("n", ""), Merged("", "r"), Parted("n"), Strays("n"), Distinct([]),
                        ("n", "r")])

    def test_everything_that_is_returned_is_new(self):
        for way in SOME:
            for kind in KINDS:
                first, second = merge(way, kind), merge(way, kind)
                self.assertIsNot(first, second)
                self.assertEqual(first, second)
                if first.__class__ is Distinct:
                    self.assertIsNot(first.chases, second.chases)
                    first.chases.clear()
                else:
                    first.one = first.other = ""
                self.assertEqual(merge(way, kind), second)
                self.assertIs(second.shows(way, kind), True)

    def test_what_is_handed_in_is_not_kept(self):
        chases = [OF_NONE["any"][0]]
        found = Distinct(chases)
        chases.append(None)
        self.assertEqual(found.chases, OF_NONE["any"][:1])
        found.chases.clear()
        self.assertEqual(chases, [OF_NONE["any"][0], None])


if __name__ == "__main__":
    unittest.main()
