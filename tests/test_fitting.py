import re
import unittest
from itertools import product

from helper import (LONG_WAYS, NO_TEXTS, ODD, PATTERNS, SIGNS, WRONG_KINDS, WRONG_TEXTS, WRONG_WAYS, Images,
                    check_equality, check_refusals, flipped_places, moves_at, texts, ways)
from turnedends import errors
from turnedends.comparing import Alike, Parted
from turnedends.drafting import NoDraft
from turnedends.fitting import Fitted, Unfit, distance, fit, least_change
from turnedends.kinds import KINDS
from turnedends.leading import Leads, Strays
from turnedends.sources import sources
from turnedends.ways import at_end, turned

LONG_TEXTS = WRONG_TEXTS + ("a" * 13, "arn" * 5, "n" * 100)
START = ((), False)
# Ways with a text that is changed, and a wanted one, that some texts become at least.
SOME = [((), "an", "ra"), (("all",), "nn", "rnarn"), (("both",), "rar", "nan"), (("care",), "n", "arn"),
        (("pairs",), "rrn", "rn"), (("lone", "lones"), "na", "nn"), (("pairs", "care"), "", "rn"),
        (("lones",), "rnrn", "nnn"), (LONG_WAYS[0], "ar", "rr"), (LONG_WAYS[3], "arn", "n"), (LONG_WAYS[7], "rr", "nn")]
NONE = [(("all",), "an", "n"), (("care",), "rn", "nn"), (("both",), "", "r"), (("lone",), "a", "an"),
        (("pairs", "all"), "arn", "rrn"), (LONG_WAYS[5], "a", "rn"), (LONG_WAYS[2], "n", "nn")]


def neighbours(text):
    """All texts that a text becomes by one sign that is put in, taken away, or made another one."""
    found = []
    for k in range(len(text) + 1):
        found += [text[:k] + sign + text[k:] for sign in SIGNS]
        if k < len(text):
            found += [text[:k] + text[k + 1:]] + [text[:k] + sign + text[k + 1:] for sign in SIGNS]
    return found


def distances_from(text, longest):
    """The distances of all texts of at most so many signs from one, by all ways of changing it sign by sign."""
    found, level, many = {text: 0}, [text], 0
    while level:
        many += 1
        level = {other for one in level for other in neighbours(one) if len(other) <= longest} - set(found)
        found.update({other: many for other in level})
    return found


def fine(way, kind, wanted, place, done):
    """For each sign that is fine: the sign, the place behind it, and how many signs of the wanted text are given out."""
    return [(sign, behind, done + len(given)) for sign, behind, given in moves_at(way, kind, place)
            if wanted[done:done + len(given)] == given]


def can_be_over(way, wanted, place, done):
    return not place[1] and at_end(way, place[0]) == wanted[done:]


def nodes_behind(way, kind, text, wanted, node):
    """The nodes that floors need with a node, each with what is added to its integer; from the words of the document."""
    at, place, done = node
    found = [((at, behind, more), 1) for _, behind, more in fine(way, kind, wanted, place, done)]
    if at < len(text):
        found += [((at + 1, place, done), 1)]
        found += [((at + 1, behind, more), int(sign != text[at]))
                  for sign, behind, more in fine(way, kind, wanted, place, done)]
    return found


def is_end(way, text, wanted, node):
    return node[0] == len(text) and can_be_over(way, wanted, node[1], node[2])


def do_show(way, kind, text, wanted, found, floors):
    """Whether a text and floors are as in the document, from its words."""
    first = (0, ((False,) * len(way), False), 0)
    if not re.fullmatch(PATTERNS[kind], found) or turned(way, found) != wanted:
        return False
    if first not in floors or floors[first] != distance(text, found):
        return False
    for node, floor in floors.items():
        if floor < 0 or not 0 <= node[0] <= len(text) or not 0 <= node[2] <= len(wanted):
            return False
        if is_end(way, text, wanted, node) and floor != 0:
            return False
        for behind, cost in nodes_behind(way, kind, text, wanted, node):
            if behind not in floors or floors[behind] + cost < floor:
                return False
    return True


def do_not_become(way, kind, wanted, places):
    """Whether places show that no text of the kind becomes the wanted one, from the words of the document."""
    if (((False,) * len(way), False), 0) not in places:
        return False
    for place, done in places:
        if not 0 <= done <= len(wanted) or can_be_over(way, wanted, place, done):
            return False
        if not all((behind, more) in places for _, behind, more in fine(way, kind, wanted, place, done)):
            return False
    return True


def all_fitted():
    """What fit returns for SOME and each kind, if it is a Fitted."""
    found = [(way, kind, text, wanted, fit(way, kind, text, wanted)) for way, text, wanted in SOME for kind in KINDS]
    return [row for row in found if row[4].__class__ is Fitted]


def all_unfit():
    found = [(way, kind, text, wanted, fit(way, kind, text, wanted)) for way, text, wanted in SOME + NONE
             for kind in KINDS]
    return [row for row in found if row[4].__class__ is Unfit]


class DistanceTest(unittest.TestCase):

    def test_all_short_texts(self):
        short = texts(3)
        for text in short:
            # No shortest way of changes goes by a text that is longer than both, but some may as well.
            by_changes = distances_from(text, 4)
            for other in short:
                self.assertEqual(distance(text, other), by_changes[other], (text, other))
                self.assertEqual(distance(other, text), by_changes[other])

    def test_longer_texts(self):
        for text in ("", "arn", "rnrn", "nnarr", "arnarn"):
            by_changes = distances_from(text, 6)
            for other in texts(6)[::5]:
                self.assertEqual(distance(text, other), by_changes[other], (text, other))

    def test_some(self):
        self.assertEqual([distance("", ""), distance("a", ""), distance("", "arn"), distance("arn", "ran")], [0, 1, 3, 2])
        self.assertEqual(distance("a" * 12, "n" * 12), 12)
        self.assertEqual(distance("arn" * 4, "arn" * 4), 0)
        self.assertEqual(distance("arn" * 4, "rna" * 4), 2)
        self.assertEqual(distance("a" * 12, ""), 12)
        self.assertEqual(distance("anananananan", "nanananana"), 2)

    def test_twelve_signs_and_thirteen(self):
        for many in range(11, 16):
            for text in ("a" * many, ("arn" * 6)[:many]):
                for call in (lambda: distance(text, "a"), lambda: distance("a", text), lambda: distance(text, text)):
                    if many <= 12:
                        self.assertGreaterEqual(call(), 0)
                    else:
                        self.assertRaises(errors.BadText, call)


class FitTest(unittest.TestCase):

    def check(self, way, kind, text, wanted, good):
        """What fit and least_change tell is what is told by all texts of the kind that become the wanted one."""
        found = fit(way, kind, text, wanted)
        self.assertIs(found.shows(way, kind, text, wanted), True, (way, kind, text, wanted))
        if good:
            least = min([self.far[text][other] for other in good])
            self.assertIs(found.__class__, Fitted, (way, kind, text, wanted))
            self.assertIn(found.text, good)
            self.assertEqual(self.far[text][found.text], least, (way, kind, text, wanted))
            self.assertEqual(least_change(way, kind, text, wanted), least)
        else:
            self.assertIs(found.__class__, Unfit, (way, kind, text, wanted))
            self.assertIsNone(least_change(way, kind, text, wanted))

    def check_all(self, images, way, some, longest):
        image = images.of(way)
        for kind in KINDS:
            good = {}
            for text in images.of_kind[kind]:
                good.setdefault(image[text], []).append(text)
            for text, wanted in product(some, texts(longest)):
                self.check(way, kind, text, wanted, good.get(wanted, []))

    def test_all_short_ways(self):
        # Two conversions make three signs one at most, so that what becomes two signs has no more than six.
        images = Images(6)
        some = ("", "n", "ar", "rn", "arn", "nnr")
        self.far = {text: distances_from(text, 6) for text in some}
        for way in ways(2):
            self.check_all(images, way, some, 2)

    def test_longer_texts(self):
        images = Images(6)
        some = ("a", "rrn", "narn", "rnrnr")
        self.far = {text: distances_from(text, 6) for text in some}
        for way in ways(1):
            self.check_all(images, way, some, 3)

    def test_longer_ways(self):
        images = Images(7)
        some = ("", "rr", "arn")
        self.far = {text: distances_from(text, 7) for text in some}
        for way in LONG_WAYS + tuple(ways(3)[43::7]):
            self.check_all(images, way, some, 1)

    def test_by_the_sources(self):
        for way, text, wanted in SOME + NONE + [(("both",), "arrnanr", "nana"), (("care",), "annrrn", "rnarn")]:
            for kind in KINDS:
                good = sources(way, wanted, kind)
                self.far = {text: {other: distance(text, other) for other in good}}
                self.check(way, kind, text, wanted, good)

    def test_the_way_of_no_conversions(self):
        for kind in KINDS:
            for text, wanted in product(texts(2), repeat=2):
                expected = distance(text, wanted) if re.fullmatch(PATTERNS[kind], wanted) else None
                self.assertEqual(least_change((), kind, text, wanted), expected)

    def test_the_empty_text(self):
        for way in ways(2) + list(LONG_WAYS):
            for kind in KINDS:
                for text in ("", "a", "rnarn"):
                    self.assertEqual(least_change(way, kind, text, ""), len(text))
                    self.assertEqual(fit(way, kind, text, "").text, "")
        self.assertEqual(least_change(("both",), "paired", "", "nn"), 4)

    def test_the_same_text_as_both(self):
        for text in ("", "a", "arn", "rnrn", "arnarnarnarn"):
            self.assertEqual(least_change(("care",), "any", text, text), 0)
            self.assertEqual(fit(("care",), "any", text, text).text, text)
        self.assertEqual(least_change(("both",), "any", "an", "an"), 0)
        self.assertEqual(least_change(("both",), "paired", "an", "an"), 1)
        self.assertIsNone(least_change(("all",), "any", "an", "an"))

    def test_twelve_signs(self):
        for way in ((), ("care",), ("both",), ("pairs",), LONG_WAYS[0], LONG_WAYS[3]):
            for kind in KINDS:
                for text in ("a" * 12, "rn" * 6, "arnr" * 3):
                    found = fit(way, kind, text, "a" * 12)
                    self.assertIs(found.shows(way, kind, text, "a" * 12), True)
                    self.assertEqual(least_change(way, kind, text, "a" * 12), distance(text, "a" * 12))
        self.assertEqual(least_change(("pairs",) * 6, "any", "a" * 12, "n" * 12), 12)
        self.assertEqual(least_change(("pairs",) * 6, "paired", "a" * 12, "n" * 12), 24)
        self.assertEqual(least_change(("pairs",) * 6, "any", "", "rn"), 8)
        self.assertEqual(len(fit(("pairs",) * 6, "any", "", "rnrn").text), 16)

    def test_kinds(self):
        self.assertEqual([least_change(("both",), kind, "arn", "an") for kind in KINDS], [0, 1, 1, 0])
        self.assertEqual([least_change(("pairs",), kind, "r", "n") for kind in KINDS], [1, 1, None, 1])


class FittedTest(unittest.TestCase):

    def test_what_shows(self):
        start = ((False,), False)
        self.assertIs(Fitted("", {(0, START, 0): 0}).shows((), "any", "", ""), True)
        self.assertIs(Fitted("", {(0, START, 0): 1, (1, START, 0): 0}).shows((), "any", "a", ""), True)
        floors = {(0, START, 0): 0, (1, START, 0): 1, (0, START, 1): 1, (1, START, 1): 0}
        self.assertIs(Fitted("a", floors).shows((), "any", "a", "a"), True)
        floors = {(0, start, 0): 1, (0, start, 2): 0}
        self.assertIs(Fitted("n", floors).shows(("all",), "any", "", "rn"), False)
        floors = {(0, start, 0): 1, (0, start, 1): 5, (0, start, 2): 0}
        self.assertIs(Fitted("n", floors).shows(("all",), "any", "", "rn"), True)

    def test_the_floors(self):
        for way, kind, text, wanted, found in all_fitted():
            self.assertIs(found.floors.__class__, dict)
            self.assertTrue(do_show(way, kind, text, wanted, found.text, found.floors), (way, kind, text, wanted))

    def test_nodes_are_needed(self):
        for way, kind, text, wanted, found in all_fitted():
            for node in found.floors:
                left = {key: floor for key, floor in found.floors.items() if key != node}
                self.assertIs(Fitted(found.text, left).shows(way, kind, text, wanted), False, (way, kind, node))
            self.assertIs(Fitted(found.text, {}).shows(way, kind, text, wanted), False)

    def test_floors_that_are_changed(self):
        seen = []
        for way, kind, text, wanted, found in all_fitted():
            for node, floor in found.floors.items():
                for other in (floor - 1, floor + 1, floor + 2, -1, 0, 99):
                    floors = {**found.floors, node: other}
                    expected = do_show(way, kind, text, wanted, found.text, floors)
                    self.assertIs(Fitted(found.text, floors).shows(way, kind, text, wanted), expected, (way, node))
                    seen.append(expected)
        self.assertIn(True, seen)
        self.assertIn(False, seen)

    def test_floors_too_great_or_below_0(self):
        floors = {(0, START, 0): 0, (1, START, 0): 1, (0, START, 1): 1, (1, START, 1): 0}
        for node in floors:
            for floor in (-1, 3):
                other = Fitted("a", {**floors, node: floor})
                self.assertIs(other.shows((), "any", "a", "a"), False, (node, floor))
        self.assertIs(Fitted("a", {**floors, (1, START, 0): 0, (0, START, 1): 0}).shows((), "any", "a", "a"), True)
        self.assertIs(Fitted("a", {**floors, (1, START, 0): -1}).shows((), "any", "a", "a"), False)
        # All are as they should be towards one another, but the first one is not the distance of both texts.
        for many in range(3):
            other = Fitted("", {(0, START, 0): many, (1, START, 0): 0})
            self.assertIs(other.shows((), "any", "a", ""), many == 1)

    def test_an_end_above_0(self):
        floors = {(0, START, 0): 0, (1, START, 0): 1, (0, START, 1): 1, (1, START, 1): 0}
        self.assertIs(Fitted("a", {**floors, (1, START, 1): 1}).shows((), "any", "a", "a"), False)
        self.assertIs(Fitted("", {(0, START, 0): 2, (1, START, 0): 1}).shows((), "any", "a", ""), False)

    def test_more_nodes(self):
        seen = []
        for way, kind, text, wanted, found in all_fitted():
            for node in found.floors:
                for place in flipped_places(way, node[1]):
                    for floor in (0, 1, 50):
                        floors = {**found.floors, (node[0], place, node[2]): floor}
                        expected = do_show(way, kind, text, wanted, found.text, floors)
                        self.assertIs(Fitted(found.text, floors).shows(way, kind, text, wanted), expected)
                        seen.append(expected)
        self.assertIn(True, seen)
        self.assertIn(False, seen)

    def test_integers_that_are_too_great_or_too_small(self):
        floors = {(0, START, 0): 0, (1, START, 0): 1, (0, START, 1): 1, (1, START, 1): 0}
        for node in ((2, START, 0), (2, START, 1), (1, START, 2), (0, START, 2), (-1, START, 0), (0, START, -1),
                     (10 ** 30, START, 0), (2, START, 2)):
            for floor in (0, 1, 2):
                self.assertIs(Fitted("a", {**floors, node: floor}).shows((), "any", "a", "a"), False, node)

    def test_what_is_no_node_or_no_floor(self):
        floors = {(0, START, 0): 0, (1, START, 0): 1, (0, START, 1): 1, (1, START, 1): 0}
        for node in ((), (0, START), (0, START, 0, 0), (START, 0, 0), (0, (), 0), (0, ((False,), False), 0), (0, None, 0),
                     (0, ((), 0), 1), (0, START[:1], 0), (None, START, 0), (0, START, None), "a", 0, None, True):
            self.assertIs(Fitted("a", {node: 0, **floors}).shows((), "any", "a", "a"), False, node)
        for node in ((False, START, 0), (0, START, False), (True, START, 0), (0, START, True), (0, ((), 0), 0)):
            # It is equal to a node, though it is none.
            self.assertEqual(len({node: 0, **floors}), 4)
            self.assertIs(Fitted("a", {node: 0, **floors}).shows((), "any", "a", "a"), False, node)
        for node, floor in product(floors, ODD):
            if floor.__class__ is not int:
                self.assertIs(Fitted("a", {**floors, node: floor}).shows((), "any", "a", "a"), False, (node, floor))

    def test_floors_in_any_order(self):
        for way, kind, text, wanted, found in all_fitted():
            other = Fitted(found.text, {node: found.floors[node] for node in reversed(found.floors)})
            self.assertIs(other.shows(way, kind, text, wanted), True)
            self.assertEqual(other, found)

    def test_other_texts(self):
        for way, kind, text, wanted, found in all_fitted():
            for other in texts(3) + [found.text + "a", "a" + found.text, "r" + found.text]:
                expected = (other in sources(way, wanted, kind)
                            and distance(text, other) == distance(text, found.text))
                self.assertIs(Fitted(other, found.floors).shows(way, kind, text, wanted), expected)

    def test_a_text_that_is_not_the_least_changed_one(self):
        found = fit(("care",), "any", "rn", "rn")
        self.assertEqual(found.text, "rn")
        self.assertIs(Fitted("n", found.floors).shows(("care",), "any", "rn", "rn"), False)
        for many in (0, 1):
            floors = {**found.floors, (0, ((False,), False), 0): many}
            self.assertIs(Fitted("n", floors).shows(("care",), "any", "rn", "rn"), False)

    def test_a_text_of_another_kind(self):
        found = fit(("both",), "any", "n", "n")
        self.assertIs(found.shows(("both",), "any", "n", "n"), True)
        self.assertIs(found.shows(("both",), "paired", "n", "n"), False)
        self.assertIs(found.shows(("both",), "lone", "n", "n"), False)
        self.assertIs(Fitted("r", fit(("both",), "bare", "r", "n").floors).shows(("both",), "bare", "r", "n"), False)

    def test_what_is_no_text(self):
        floors = fit((), "any", "a", "a").floors
        for text in NO_TEXTS + ODD:
            self.assertIs(Fitted(text, floors).shows((), "any", "a", "a"), False, text)

    def test_a_text_of_more_than_twelve_signs(self):
        found = fit(("pairs",) * 6, "any", "", "nn")
        floors = {**found.floors}
        self.assertEqual((found.text, floors[0, ((False,) * 6, False), 0]), ("nn", 2))
        self.assertIs(Fitted("rrrrrrnrrrrrrn", floors).shows(("pairs",) * 6, "any", "", "nn"), False)
        found = fit(("pairs",) * 6, "any", "a", "rnrn")
        self.assertEqual(len(found.text), 16)
        self.assertIs(found.shows(("pairs",) * 6, "any", "a", "rnrn"), True)

    def test_other_ways_texts_and_wanted_ones(self):
        found = fit(("care",), "any", "an", "arn")
        self.assertIs(found.shows(("care",), "any", "an", "arn"), True)
        for other in ((("all",), "any", "an", "arna"), (("pairs",), "any", "an", "arn"), (("care",), "any", "an", "rn"),
                      (("care",), "any", "arn", "arn"), (("care",), "any", "", "arn"), (("care",), "lone", "an", "arn"),
                      (("care", "care"), "any", "an", "arn"), (("care",), "any", "ann", "arn")):
            self.assertIs(found.shows(*other), False, other)

    def test_the_current_attributes(self):
        found = fit(("care",), "any", "an", "arn")
        node, floor = found.floors.popitem()
        self.assertIs(found.shows(("care",), "any", "an", "arn"), False)
        found.floors[node] = floor
        self.assertIs(found.shows(("care",), "any", "an", "arn"), True)
        found.text = "arn"
        self.assertIs(found.shows(("care",), "any", "an", "arn"), False)


class UnfitTest(unittest.TestCase):

    def test_what_shows(self):
        start = ((False,), False)
        self.assertIs(Unfit([(start, 0)]).shows(("all",), "any", "a", "n"), True)
        self.assertIs(Unfit([(start, 0)]).shows(("lone",), "any", "", "n"), True)
        self.assertIs(Unfit([(START, 0), (START, 1)]).shows((), "bare", "arn", "ar"), True)
        self.assertIs(Unfit([(START, 0), (((), True), 1)]).shows((), "paired", "", "r"), True)
        self.assertIs(Unfit([(START, 0)]).shows((), "any", "", ""), False)

    def test_the_places(self):
        for way, kind, text, wanted, found in all_unfit():
            self.assertIs(found.places.__class__, list)
            self.assertTrue(do_not_become(way, kind, wanted, found.places), (way, kind, wanted))

    def test_pairs_are_needed(self):
        for way, kind, text, wanted, found in all_unfit():
            for k in range(len(found.places)):
                left = found.places[:k] + found.places[k + 1:]
                self.assertIs(Unfit(left).shows(way, kind, text, wanted), False, (way, kind, wanted, k))
            self.assertIs(Unfit([]).shows(way, kind, text, wanted), False)

    def test_pairs_that_are_changed_or_more(self):
        seen = []
        for way, kind, text, wanted, found in all_unfit():
            for k, (place, done) in enumerate(found.places):
                others = [(other, done) for other in flipped_places(way, place)]
                others += [(place, other) for other in range(-1, len(wanted) + 2) if other != done]
                for new in others:
                    expected = do_not_become(way, kind, wanted, found.places + [new])
                    self.assertIs(Unfit(found.places + [new]).shows(way, kind, text, wanted), expected, (way, new))
                    seen.append(expected)
                    places = found.places[:k] + [new] + found.places[k + 1:]
                    self.assertIs(Unfit(places).shows(way, kind, text, wanted), False, (way, kind, wanted, new))
        self.assertIn(True, seen)
        self.assertIn(False, seen)

    def test_pairs_more_than_once_and_in_any_order(self):
        for way, kind, text, wanted, found in all_unfit():
            self.assertIs(Unfit(found.places * 3).shows(way, kind, text, wanted), True)
            self.assertIs(Unfit(found.places[::-1] + found.places[:1]).shows(way, kind, text, wanted), True)

    def test_integers_that_are_too_great_or_too_small(self):
        for done in (-1, 2, 3, 10 ** 30, -10 ** 30):
            for pairs in ([(((False,), False), 0), (((False,), False), done)], [(((False,), False), done)]):
                self.assertIs(Unfit(pairs).shows(("all",), "any", "a", "n"), False)

    def test_a_pair_in_which_a_text_can_be_over(self):
        start, held = ((False,), False), ((True,), False)
        # All that is wanted is given out already, or is held back.
        self.assertIs(Unfit([(start, 0), (start, 1)]).shows(("all",), "any", "", "n"), False)
        places = fit(("both",), "bare", "", "r").places
        self.assertEqual(places, [(start, 0)])
        self.assertIs(Unfit(places + [(held, 0)]).shows(("pairs",), "bare", "", "r"), False)
        self.assertIs(Unfit(places + [(held, 0)]).shows(("both",), "bare", "", "r"), True)
        # The boolean tells that it cannot be over, whatever the kind is; and behind each sign, more is given out.
        self.assertIs(Unfit(places + [(((True,), True), 0)]).shows(("pairs",), "bare", "", "r"), True)

    def test_some_text_becomes_the_wanted_one(self):
        for way, kind, text, wanted, _ in all_fitted():
            first = (((False,) * len(way), False), 0)
            places = [first]
            for place, done in places:
                places += [row[1:] for row in fine(way, kind, wanted, place, done) if row[1:] not in places]
            self.assertIs(Unfit(places).shows(way, kind, text, wanted), False)
            places = [(place, done) for place, done in places if not can_be_over(way, wanted, place, done)]
            self.assertIs(Unfit(places).shows(way, kind, text, wanted), False)

    def test_what_is_no_pair(self):
        first = (((False,), False), 0)
        for pair in ODD + ((), first[:1], first + (0,), (START, 0), (((True,), False), 0), (((0,), False), 0),
                           (((False,), 0), 0), (first[0], False), (first[0], None), (None, 0), list(first)):
            self.assertIs(Unfit([first, pair]).shows(("all",), "any", "a", "n"), False, pair)
            self.assertIs(Unfit([pair]).shows(("all",), "any", "a", "n"), False, pair)

    def test_the_text_that_is_changed_does_not_matter(self):
        found = fit(("all",), "any", "an", "n")
        for text in texts(2) + ["a" * 12]:
            self.assertIs(found.shows(("all",), "any", text, "n"), True)

    def test_other_ways_kinds_and_wanted_texts(self):
        found = fit(("all",), "any", "an", "an")
        self.assertIs(found.shows(("all",), "any", "an", "an"), True)
        for other in ((("lone",), "any", "an", "aa"), (("care",), "paired", "an", "rn"), (("all",), "any", "an", "rn"),
                      (("all", "all"), "any", "an", "an"), ((), "any", "an", "an")):
            self.assertIs(found.shows(*other), False, other)

    def test_the_current_places(self):
        found = fit(("all",), "any", "an", "an")
        last = found.places.pop()
        self.assertIs(found.shows(("all",), "any", "an", "an"), False)
        found.places = [last, last] + found.places
        self.assertIs(found.shows(("all",), "any", "an", "an"), True)


class ConventionsTest(unittest.TestCase):

    def test_wrong_inputs(self):
        fitted, unfit = fit(("care",), "any", "an", "arn"), fit(("all",), "any", "an", "n")
        check_refusals(self, [fit, least_change, fitted.shows, unfit.shows], [
            (("care",), WRONG_WAYS[::3] + ((("all",) * 7),), errors.BadWay), ("any", WRONG_KINDS[::3], errors.BadKind),
            ("an", LONG_TEXTS[::2] + ("a" * 13,), errors.BadText),
            ("arn", LONG_TEXTS[1::2] + ("a" * 13,), errors.BadWanted)])
        for call in (fit, least_change, fitted.shows, unfit.shows):
            for wrong in WRONG_WAYS:
                self.assertRaises(errors.BadWay, call, wrong, None, None, None)
            for wrong in WRONG_KINDS:
                self.assertRaises(errors.BadKind, call, (), wrong, None, None)
            for wrong in LONG_TEXTS:
                self.assertRaises(errors.BadText, call, (), "any", wrong, wrong)
                self.assertRaises(errors.BadWanted, call, (), "any", "a", wrong)

    def test_wrong_inputs_of_distance(self):
        check_refusals(self, [distance], [("arn", LONG_TEXTS, errors.BadText), ("", LONG_TEXTS, errors.BadText)])

    def test_thirteen_signs(self):
        for kind in KINDS:
            for call in (fit, least_change, Fitted("", {}).shows, Unfit([]).shows):
                self.assertRaises(errors.BadText, call, (), kind, "a" * 13, "a" * 13)
                self.assertRaises(errors.BadText, call, (), kind, "a" * 13, "a")
                self.assertRaises(errors.BadWanted, call, (), kind, "a" * 12, "a" * 13)
                call((), kind, "a" * 12, "a" * 12)

    def test_what_is_refused_is_not_modified(self):
        way, kind, text = ["pairs"], ["any"], ["a"]
        fitted, unfit = fit(("care",), "any", "an", "arn"), fit(("all",), "any", "an", "n")
        for call in (fit, least_change, fitted.shows, unfit.shows):
            self.assertRaises(errors.BadWay, call, way, kind, text, text)
            self.assertRaises(errors.BadKind, call, (), kind, text, text)
            self.assertRaises(errors.BadText, call, (), "any", text, text)
            self.assertRaises(errors.BadWanted, call, (), "any", "", text)
        self.assertEqual((way, kind, text), (["pairs"], ["any"], ["a"]))
        self.assertEqual((fitted, unfit), (fit(("care",), "any", "an", "arn"), fit(("all",), "any", "an", "n")))

    def test_equality(self):
        floors, other = {(0, START, 0): 1, (1, START, 0): 0}, {(1, START, 0): 0, (0, START, 0): 1}
        check_equality(self, [Fitted("a", floors), Fitted("a", other)],
                       [Fitted("", floors), Fitted("a", {}), Fitted("a", {**floors, (1, START, 0): 1}),
                        Fitted("a", {(0, START, 0): 1}), Unfit([]), Parted("a"), Strays("a"), NoDraft({}), ("a", floors)])
        pair, behind = (START, 0), (START, 1)
        check_equality(self, [Unfit([pair, behind]), Unfit([pair, behind])],
                       [Unfit([]), Unfit([pair]), Unfit([behind, pair]), Unfit([pair, behind, pair]), Fitted("", {}),
                        Leads([pair, behind]), [pair, behind]])
        check_equality(self, [Unfit([])], [Leads([]), Alike([]), Fitted("", {})])

    def test_everything_that_is_returned_is_new(self):
        for way, kind, text, wanted, first in all_fitted() + all_unfit():
            second = fit(way, kind, text, wanted)
            self.assertIsNot(first, second)
            self.assertEqual(first, second)
            if first.__class__ is Fitted:
                self.assertIsNot(first.floors, second.floors)
                first.floors.clear()
                first.text = "rrrr"
            else:
                self.assertIsNot(first.places, second.places)
                first.places.clear()
            self.assertEqual(fit(way, kind, text, wanted), second)
            self.assertIs(second.shows(way, kind, text, wanted), True)

    def test_what_is_handed_in_is_not_kept(self):
        floors, places = {(0, START, 0): 0}, [(START, 0)]
        fitted, unfit = Fitted("", floors), Unfit(places)
        floors[1, START, 0] = 1
        places.append(None)
        self.assertEqual((fitted.floors, unfit.places), ({(0, START, 0): 0}, [(START, 0)]))
        fitted.floors.clear()
        unfit.places.clear()
        self.assertEqual((floors, places), ({(0, START, 0): 0, (1, START, 0): 1}, [(START, 0), None]))


if __name__ == "__main__":
    unittest.main()
