import unittest
from fractions import Fraction

from helper import (LONG_WAYS, NO_TEXTS, ODD, WRONG_KINDS, WRONG_WAYS, Equal, check_equality, check_refusals,
                    flipped_places, moves_at, places_of, texts, texts_of, ways)
from turnedends import errors
from turnedends.comparing import Alike, Parted
from turnedends.drafting import NoDraft
from turnedends.kinds import KINDS
from turnedends.rates import Swelling, greatest_rate, least_rate, swell
from turnedends.ways import read, turned

SOME = [(), ("all",), ("both",), ("care",), ("pairs",), ("lone", "all"), ("pairs", "care"), ("lones", "pairs"),
        ("all", "all", "pairs")] + list(LONG_WAYS)
NO_FLAGS = tuple([odd for odd in ODD if odd is not True and odd is not False]) + ((), "", "True", (True,), 2, "least")
START = ((), False)


def pair(rate):
    return rate.numerator, rate.denominator


def rates_of_rings(way, kind):
    """The greatest and the least rate of all rings of at most as many signs as there are places: no other is beyond."""
    places = places_of(way, kind)
    rates = []
    for start in places:
        greatest, least = {start: 0}, {start: 0}
        for many in range(1, len(places) + 1):
            for known, choose in ((greatest, max), (least, min)):
                behind = {}
                for place, total in known.items():
                    for _, other, given in moves_at(way, kind, place):
                        behind[other] = choose(behind.get(other, total + len(given)), total + len(given))
                known.clear()
                known.update(behind)
                if start in known:
                    rates.append(Fraction(known[start], many))
    return pair(max(rates)), pair(min(rates))


def behind_text(way, kind, place, text):
    """The place behind a text, and how many signs are given out, None if a sign of it cannot come."""
    many = 0
    for sign in text:
        found = [(behind, given) for word, behind, given in moves_at(way, kind, place) if word == sign]
        if not found:
            return None
        place, many = found[0][0], many + len(found[0][1])
    return place, many


def do_show(way, kind, least, rate, ahead, ring, heights):
    """Whether a ring and heights show that a rate is the greatest or the least one, from the words of the document."""
    first = ((False,) * len(way), False)
    start = behind_text(way, kind, first, ahead)
    if start is None or ring == "" or behind_text(way, kind, start[0], ring) is None:
        return False
    place, many = behind_text(way, kind, start[0], ring)
    if place != start[0] or pair(Fraction(many, len(ring))) != rate or first not in heights:
        return False
    for place, height in heights.items():
        for _, behind, given in moves_at(way, kind, place):
            weight = len(given) * rate[1] - rate[0]
            if behind not in heights or heights[behind] + (-weight if least else weight) > height:
                return False
    return True


def all_found():
    return [(way, kind, least, swell(way, kind, least=least)) for way in SOME for kind in KINDS
            for least in (False, True)]


def with_heights(found, heights):
    return Swelling(found.rate, found.ahead, found.ring, heights)


class SwellTest(unittest.TestCase):

    def check(self, way):
        for kind in KINDS:
            expected = rates_of_rings(way, kind)
            self.assertEqual((greatest_rate(way, kind), least_rate(way, kind)), expected, (way, kind))
            for least in (False, True):
                found = swell(way, kind, least=least)
                self.assertIs(found.__class__, Swelling)
                self.assertEqual(found.rate, expected[least])
                self.assertIs(found.shows(way, kind, least=least), True, (way, kind, least))
                self.assertTrue(do_show(way, kind, least, found.rate, found.ahead, found.ring, found.heights))

    def test_all_short_ways(self):
        for way in ways(3):
            self.check(way)

    def test_longer_ways(self):
        for way in SOME + ways(4)[259::7]:
            self.check(way)

    def test_a_ring_gives_out_so_many_signs(self):
        # What is added by one more time of the ring is what the rate tells, and nothing else.
        for way, kind, least, found in all_found():
            lengths = [len(turned(way, found.ahead + found.ring * times + "n")) for times in range(1, 6)]
            for short, long in zip(lengths, lengths[1:]):
                self.assertEqual((long - short) * found.rate[1], len(found.ring) * found.rate[0], (way, kind, least))

    def test_no_short_text_gives_out_more_or_less(self):
        for way in SOME + ways(2):
            for kind in KINDS:
                most, fewest = swell(way, kind), swell(way, kind, least=True)
                for text in texts_of(kind, 6):
                    standing, many = (False,) * len(way), 0
                    for sign in text:
                        standing, given = read(way, standing, sign)
                        many += len(given)
                    above = many * most.rate[1] - len(text) * most.rate[0]
                    below = len(text) * fewest.rate[0] - many * fewest.rate[1]
                    self.assertLessEqual(above + most.heights[standing, False], most.heights[(False,) * len(way), False])
                    self.assertLessEqual(below + fewest.heights[standing, False],
                                         fewest.heights[(False,) * len(way), False])

    def test_what_turning_long_walks_tells(self):
        # The most and the fewest signs that all texts of one length become grow by the rates, up to a constant.
        for way in ways(2) + list(LONG_WAYS):
            for kind in KINDS:
                most = fewest = {((False,) * len(way), False): 0}
                lengths = []
                for many in range(60):
                    both = []
                    for known, choose in ((most, max), (fewest, min)):
                        behind = {}
                        for place, total in known.items():
                            for _, other, given in moves_at(way, kind, place):
                                behind[other] = choose(behind.get(other, total + len(given)), total + len(given))
                        both.append(behind)
                    most, fewest = both
                    lengths.append((max(most.values()), min(fewest.values())))
                for at, rate in enumerate((greatest_rate(way, kind), least_rate(way, kind))):
                    for many in (29, 59):
                        self.assertLess(abs(lengths[many][at] * rate[1] - (many + 1) * rate[0]), 60, (way, kind))
                    grown = (lengths[59][at] - lengths[29][at]) * rate[1] - 30 * rate[0]
                    self.assertLess(abs(grown), 3 * rate[1] + 12, (way, kind, rate))

    def test_the_way_of_no_conversions(self):
        for kind in KINDS:
            self.assertEqual((greatest_rate((), kind), least_rate((), kind)), ((1, 1), (1, 1)))
            found = swell((), kind)
            self.assertEqual(found.heights, {place: 0 for place in places_of((), kind)})

    def test_ways_of_six_conversions(self):
        self.assertEqual([greatest_rate(("all",) * 6, kind) for kind in KINDS], [(7, 1), (7, 1), (1, 1), (4, 1)])
        self.assertEqual([least_rate(("all",) * 6, kind) for kind in KINDS], [(1, 1)] * 4)
        self.assertEqual([least_rate(("pairs",) * 6, kind) for kind in KINDS], [(1, 7), (1, 1), (1, 1), (1, 2)])
        self.assertEqual([greatest_rate(("pairs",) * 6, kind) for kind in KINDS], [(1, 1)] * 4)

    def test_each_kind(self):
        found = [[(greatest_rate((word,), kind), least_rate((word,), kind)) for kind in KINDS]
                 for word in ("all", "both", "care", "lone")]
        one = ((1, 1), (1, 1))
        self.assertEqual(found, [[((2, 1), (1, 1)), ((2, 1), (1, 1)), one, ((3, 2), (1, 1))],
                                 [((1, 1), (1, 2)), one, one, ((1, 1), (1, 2))],
                                 [((2, 1), (1, 1)), ((2, 1), (1, 1)), one, one], [one] * 4])

    def test_rates_are_in_lowest_terms(self):
        for way, kind, least, found in all_found():
            self.assertEqual(pair(Fraction(*found.rate)), found.rate)
            self.assertEqual([number.__class__ for number in found.rate], [int, int])
        # Two signs for four, and six for four.
        self.assertEqual(swell(("pairs",), "paired", least=True).rate, (1, 2))
        self.assertEqual(greatest_rate(("all",), "paired"), (3, 2))

    def test_least(self):
        for way in SOME:
            for kind in KINDS:
                self.assertEqual(swell(way, kind), swell(way, kind, least=False))
                self.assertEqual(greatest_rate(way, kind), swell(way, kind, least=False).rate)
                self.assertEqual(least_rate(way, kind), swell(way, kind, least=True).rate)
        self.assertEqual(swell(("all",), "any").rate, (2, 1))
        self.assertEqual(swell(("all",), "any", least=True).rate, (1, 1))


class SwellingTest(unittest.TestCase):

    def test_what_shows(self):
        zero = {((False,), False): 0}
        self.assertIs(Swelling((2, 1), "", "n", zero).shows(("all",), "any"), True)
        self.assertIs(Swelling((2, 1), "ran", "nnn", {((False,), False): -70}).shows(("all",), "any"), True)
        self.assertIs(Swelling((1, 1), "", "a", zero).shows(("all",), "any", least=True), True)
        self.assertIs(Swelling((1, 1), "", "r", zero).shows(("all",), "any", least=True), True)
        for first, second in ((0, 0), (0, 1), (0, -2), (1, -1)):
            held = {((False,), False): first, ((True,), False): second}
            self.assertIs(Swelling((1, 2), "", "rn", held).shows(("pairs",), "any", least=True), False)
        held = {((False,), False): 0, ((True,), False): -1}
        self.assertIs(Swelling((1, 2), "", "rn", held).shows(("pairs",), "any", least=True), True)
        self.assertIs(Swelling((1, 2), "r", "nr", held).shows(("pairs",), "any", least=True), True)
        pairs = {((False,), False): 0, ((False,), True): 1}
        self.assertIs(Swelling((3, 2), "", "rn", pairs).shows(("all",), "paired"), True)
        self.assertIs(Swelling((3, 2), "r", "nrnr", pairs).shows(("all",), "paired"), True)

    def test_least_given_as_true_as_false_and_omitted(self):
        zero = {((False,), False): 0}
        high, low = Swelling((2, 1), "", "n", zero), Swelling((1, 1), "", "a", zero)
        self.assertEqual([high.shows(("all",), "any"), high.shows(("all",), "any", least=False),
                          high.shows(("all",), "any", least=True)], [True, True, False])
        self.assertEqual([low.shows(("all",), "any"), low.shows(("all",), "any", least=False),
                          low.shows(("all",), "any", least=True)], [False, False, True])
        same = Swelling((1, 1), "", "a", zero)
        self.assertEqual([same.shows(("lone",), "any"), same.shows(("lone",), "any", least=True)], [True, True])

    def test_the_rate(self):
        for way, kind, least, found in all_found():
            numerator, denominator = found.rate
            for rate in ((numerator * 2, denominator * 2), (numerator + 1, denominator), (numerator, denominator + 1),
                         (-numerator, -denominator), (0, 1), (0, 0), (1, 0), (numerator - 1, denominator),
                         (denominator + 9, numerator)):
                other = Swelling(rate, found.ahead, found.ring, found.heights)
                self.assertIs(other.shows(way, kind, least=least), False, (way, kind, rate))
        zero = {((False,), False): 0}
        for rate in ((4, 2), (2, 1, 1), (2,), [2, 1], 2, "21", None, True, (True, True)):
            self.assertIs(Swelling(rate, "", "nn", zero).shows(("all",), "any"), False, rate)
        self.assertIs(Swelling((2, 1), "", "nn", zero).shows(("all",), "any"), True)
        self.assertIs(Swelling((1, 1), "", "a", zero).shows(("lone",), "any"), True)
        for rate in ((True, 1), (1, True), [1, 1], Equal()):
            self.assertIs(Swelling(rate, "", "a", zero).shows(("lone",), "any"), False, rate)

    def test_a_ring_of_another_rate(self):
        zero = {((False,), False): 0}
        for ring in ("a", "r", "na", "nnnnna"):
            self.assertIs(Swelling((2, 1), "", ring, zero).shows(("all",), "any"), False, ring)
        # A ring with this rate, but another one has a greater one.
        self.assertIs(Swelling((1, 1), "", "a", zero).shows(("all",), "any"), False)
        self.assertIs(Swelling((3, 2), "", "na", zero).shows(("all",), "any"), False)
        self.assertIs(Swelling((3, 2), "", "na", {((False,), False): 10 ** 9}).shows(("all",), "any"), False)

    def test_an_empty_ring(self):
        for way, kind, least, found in all_found():
            other = Swelling(found.rate, found.ahead, "", found.heights)
            self.assertIs(other.shows(way, kind, least=least), False)
        self.assertIs(Swelling((0, 1), "", "", {START: 0}).shows((), "any"), False)
        self.assertIs(Swelling((1, 1), "", "", {START: 0}).shows((), "any"), False)

    def test_a_ring_that_does_not_lead_back(self):
        held = {((False,), False): 0, ((True,), False): -1}
        for ahead, ring in (("", "r"), ("", "nr"), ("r", "rn"), ("r", "n"), ("r", "a"), ("", "rnr")):
            for rate in ((0, 1), (1, 2), (1, 1), (1, 3)):
                self.assertIs(Swelling(rate, ahead, ring, held).shows(("pairs",), "any", least=True), False, ring)
        self.assertIs(Swelling((1, 1), "", "r", {START: 0, ((), True): 0}).shows((), "paired"), False)

    def test_signs_that_cannot_come(self):
        for kind, bad in (("bare", "r"), ("lone", "n"), ("paired", "n")):
            heights = swell((), kind).heights
            self.assertIs(Swelling((1, 1), "", "a", heights).shows((), kind), True)
            self.assertIs(Swelling((1, 1), bad, "a", heights).shows((), kind), False)
            self.assertIs(Swelling((1, 1), "", bad, heights).shows((), kind), False)
            self.assertIs(Swelling((1, 1), "a" + bad + "a", "a", heights).shows((), kind), False)
            self.assertIs(Swelling((1, 1), "aa", "aa" + bad, heights).shows((), kind), False)
        heights = swell((), "paired").heights
        self.assertIs(Swelling((1, 1), "r", "a", heights).shows((), "paired"), False)
        self.assertIs(Swelling((1, 1), "rr", "n", heights).shows((), "paired"), False)
        self.assertIs(Swelling((1, 1), "r", "nr", heights).shows((), "paired"), True)
        self.assertIs(Swelling((1, 1), "rna", "rn", heights).shows((), "paired"), True)

    def test_what_is_no_text(self):
        for text in NO_TEXTS + ODD:
            self.assertIs(Swelling((1, 1), text, "a", {START: 0}).shows((), "any"), False, text)
            self.assertIs(Swelling((1, 1), "", text, {START: 0}).shows((), "any"), False, text)

    def test_heights_are_needed(self):
        for way, kind, least, found in all_found():
            for place in found.heights:
                left = {key: height for key, height in found.heights.items() if key != place}
                self.assertIs(with_heights(found, left).shows(way, kind, least=least), False, (way, kind, place))
            self.assertIs(with_heights(found, {}).shows(way, kind, least=least), False)

    def test_heights_that_are_changed(self):
        seen = []
        for way, kind, least, found in all_found():
            for place, height in found.heights.items():
                for other in (height - 1, height + 1, height - 100, height + 100):
                    heights = {**found.heights, place: other}
                    expected = do_show(way, kind, least, found.rate, found.ahead, found.ring, heights)
                    self.assertIs(with_heights(found, heights).shows(way, kind, least=least), expected)
                    seen.append(expected)
            heights = {place: height + 7 for place, height in found.heights.items()}
            self.assertIs(with_heights(found, heights).shows(way, kind, least=least), True)
        self.assertIn(True, seen)
        self.assertIn(False, seen)

    def test_heights_without_the_first_place_or_a_place_behind(self):
        first, held = ((False,), False), ((True,), False)
        heights = {first: 0, held: 0}
        self.assertIs(Swelling((1, 1), "", "r" + "a", heights).shows(("care",), "lone"), True)
        for left in ({first: 0}, {held: 0}, {}):
            self.assertIs(Swelling((1, 1), "", "ra", left).shows(("care",), "lone"), False)
        # Closed by itself: from the place onward, the first one never comes again.
        self.assertIs(Swelling((1, 1), "", "a", {((), True): 0}).shows((), "any"), False)

    def test_heights_of_places_that_do_not_come_about(self):
        for way, kind, least, found in all_found():
            for place in found.heights:
                for other in flipped_places(way, place):
                    for height in (-50, 0, 50):
                        heights = {**found.heights, other: height}
                        expected = do_show(way, kind, least, found.rate, found.ahead, found.ring, heights)
                        self.assertIs(with_heights(found, heights).shows(way, kind, least=least), expected)

    def test_what_is_no_place_or_no_height(self):
        way, first = ("all",), ((False,), False)
        for place in tuple([odd for odd in ODD if odd.__class__ not in (list, dict, set)]) + (
                (), first[:1], first + (False,), ((True,), False), ((), False), ((0,), False), ((False,), 0),
                ((False, False), False), (((False,),), False), ((False,), None)):
            heights = {place: 0, first: 0}
            if len(heights) == 1:
                # It is equal to the first place, though it is none.
                heights = {place: 0}
            self.assertIs(Swelling((2, 1), "", "n", heights).shows(way, "any"), False, place)
        for height in ODD:
            if height.__class__ is not int:
                self.assertIs(Swelling((2, 1), "", "n", {first: height}).shows(way, "any"), False, height)

    def test_heights_in_any_order(self):
        for way, kind, least, found in all_found():
            other = with_heights(found, {place: found.heights[place] for place in reversed(found.heights)})
            self.assertIs(other.shows(way, kind, least=least), True)
            self.assertEqual(other, found)

    def test_other_texts_ahead_and_other_rings(self):
        for way, kind, least, found in all_found():
            for ahead in texts(2):
                for ring in texts(3):
                    expected = do_show(way, kind, least, found.rate, ahead, ring, found.heights)
                    other = Swelling(found.rate, ahead, ring, found.heights)
                    self.assertIs(other.shows(way, kind, least=least), expected, (way, kind, least, ahead, ring))
            other = Swelling(found.rate, found.ahead + found.ring, found.ring * 3, found.heights)
            self.assertIs(other.shows(way, kind, least=least), True)

    def test_other_ways_and_kinds(self):
        found = swell(("all",), "bare")
        self.assertIs(found.shows(("all",), "bare"), True)
        self.assertIs(found.shows(("all",), "lone"), False)
        self.assertIs(found.shows(("all",), "paired"), False)
        self.assertIs(found.shows(("lone",), "bare"), False)
        self.assertIs(found.shows(("all", "all"), "bare"), False)

    def test_the_current_attributes(self):
        found = swell(("pairs",), "any", least=True)
        place = ((True,), False)
        height = found.heights.pop(place)
        self.assertIs(found.shows(("pairs",), "any", least=True), False)
        found.heights[place] = height
        self.assertIs(found.shows(("pairs",), "any", least=True), True)
        found.ahead, found.ring = "aaa", "rnrn"
        self.assertIs(found.shows(("pairs",), "any", least=True), True)
        found.ring = "rna"
        self.assertIs(found.shows(("pairs",), "any", least=True), False)
        found.rate = (2, 3)
        self.assertIs(found.shows(("pairs",), "any", least=True), False)


class ConventionsTest(unittest.TestCase):

    def test_wrong_inputs(self):
        found = swell(("care",), "any")
        arguments = [(("care",), WRONG_WAYS, errors.BadWay), ("any", WRONG_KINDS, errors.BadKind)]
        check_refusals(self, [swell, found.shows, greatest_rate, least_rate], arguments)
        calls = [lambda way, kind, least: swell(way, kind, least=least),
                 lambda way, kind, least: found.shows(way, kind, least=least)]
        check_refusals(self, calls, arguments + [(True, NO_FLAGS, errors.BadFlag)])

    def test_least_is_given_by_its_name(self):
        found = swell(("care",), "any")
        for call in (swell, found.shows):
            self.assertRaises(TypeError, call, ("care",), "any", True)
        for call in (greatest_rate, least_rate):
            self.assertRaises(TypeError, lambda: call(("care",), "any", least=True))

    def test_what_is_refused_is_not_modified(self):
        way, kind, flag = ["pairs"], ["any"], [True]
        found = swell(("care",), "any")
        for call in (swell, found.shows):
            self.assertRaises(errors.BadWay, call, way, kind, least=flag)
            self.assertRaises(errors.BadKind, call, (), kind, least=flag)
            self.assertRaises(errors.BadFlag, call, (), "any", least=flag)
        self.assertEqual((way, kind, flag), (["pairs"], ["any"], [True]))
        self.assertEqual(found, swell(("care",), "any"))

    def test_equality(self):
        heights = {START: 0, ((), True): 1}
        check_equality(self, [Swelling((1, 1), "a", "n", heights), Swelling((1, 1), "a", "n", {((), True): 1, START: 0})],
                       [Swelling((1, 2), "a", "n", heights), Swelling((1, 1), "", "n", heights),
                        Swelling((1, 1), "a", "r", heights), Swelling((1, 1), "a", "n", {START: 0}),
                        Swelling((1, 1), "a", "n", {START: 0, ((), True): 2}), Alike([]), Parted("n"), NoDraft({}),
                        ((1, 1), "a", "n", heights)])

    def test_everything_that_is_returned_is_new(self):
        for way, kind, least, first in all_found():
            second = swell(way, kind, least=least)
            self.assertIsNot(first, second)
            self.assertEqual(first, second)
            self.assertIsNot(first.heights, second.heights)
            first.heights.clear()
            first.rate, first.ahead, first.ring = (0, 1), "", ""
            self.assertEqual(swell(way, kind, least=least), second)
            self.assertIs(second.shows(way, kind, least=least), True)

    def test_what_is_handed_in_is_not_kept(self):
        heights = {START: 0}
        found = Swelling((1, 1), "", "a", heights)
        heights[START] = 1
        heights[((), True)] = 1
        self.assertEqual(found.heights, {START: 0})
        found.heights.clear()
        self.assertEqual(heights, {START: 1, ((), True): 1})


if __name__ == "__main__":
    unittest.main()
