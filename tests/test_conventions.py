"""What the document promises of the whole program: equality, new objects, and what is a boolean and what is an integer."""

import unittest
from itertools import product

from helper import Equal
from turnedends import errors
from turnedends.comparing import Alike, Parted, compare
from turnedends.drafting import Cheapest, NoDraft, cheapest, drafts
from turnedends.fitting import Fitted, Unfit, fit
from turnedends.kinds import KINDS
from turnedends.leading import Leads, Strays, lead
from turnedends.merging import Distinct, Merged, merge
from turnedends.rates import Swelling, swell
from turnedends.resting import Restless, Rests, rest, rounds
from turnedends.sources import sources
from turnedends.sparing import Spared, greatest_lots, lots, spare, without
from turnedends.stores import Store
from turnedends.texts import read_ways
from turnedends.ways import CONVERSIONS, all_standings, at_end, read

# One of each class, made so that all their attributes are as alike as can be.
EMPTY = {
    "Alike": lambda: Alike([]), "Parted": lambda: Parted(""), "Leads": lambda: Leads([]), "Strays": lambda: Strays(""),
    "Rests": lambda: Rests(0, [], []), "Restless": lambda: Restless([]), "Cheapest": lambda: Cheapest((), [], {}),
    "NoDraft": lambda: NoDraft({}), "Spared": lambda: Spared({}, {}), "Distinct": lambda: Distinct([]),
    "Merged": lambda: Merged("", ""), "Swelling": lambda: Swelling((1, 1), "", "", {}), "Fitted": lambda: Fitted("", {}),
    "Unfit": lambda: Unfit([]),
}
# What returns evidence, in both of its forms.
CALLS = [
    lambda: compare(("care",), ("care",), "any"), lambda: compare(("care",), (), "any"),
    lambda: lead(("both",), "any", "bare"), lambda: lead(("all",), "any", "bare"),
    lambda: rest(("both",), "any", 2), lambda: rest(("all",), "any", 2),
    lambda: cheapest(("care",), {"pairs": 1, "all": 1}, "any"), lambda: cheapest(("care",), {"all": 1}, "any"),
    lambda: spare(("both", "both", "care"), (0, 1), "any"), lambda: merge(("all",), "any"), lambda: merge(("care",), "any"),
    lambda: swell(("care",), "any"), lambda: swell(("care",), "any", least=True),
    lambda: fit(("care",), "any", "an", "arn"), lambda: fit(("all",), "any", "an", "n"),
]
LISTS = [
    lambda: all_standings(("both", "care")), lambda: rounds(("all",), "an", 3), lambda: drafts({"all": 1}),
    lambda: lots(("all", "care"), (0, 1)), lambda: greatest_lots(("all", "care"), (0, 1), "any"),
    lambda: sources(("care",), "arn", "any"), lambda: Store((), ()).journal, lambda: read_ways("way all\nway\n"),
]


class EqualityTest(unittest.TestCase):

    def test_objects_of_different_classes(self):
        for (name, make), (other, make_other) in product(EMPTY.items(), repeat=2):
            self.assertIs(make() == make_other(), name == other, (name, other))
            self.assertIs(make() != make_other(), name != other, (name, other))

    def test_anything_else(self):
        for make in EMPTY.values():
            for other in (None, True, False, 0, 1, "", (), [], {}, object(), Equal(), Store((), ()), Alike,
                          errors.BadText("")):
                self.assertIs(make() == other, False)
                self.assertIs(make() != other, True)

    def test_stores(self):
        store = Store((), ())
        for other in list(EMPTY.values()):
            self.assertIs(store == other(), False)
            self.assertIs(store != other(), True)


class NewObjectsTest(unittest.TestCase):

    def test_evidence(self):
        for call in CALLS:
            first, second = call(), call()
            self.assertIsNot(first, second)
            self.assertEqual(first, second)
            for name, value in vars(first).items():
                if isinstance(value, (list, dict)):
                    self.assertIsNot(value, vars(second)[name])
                    value.clear()
            self.assertEqual(call(), second)

    def test_lists(self):
        for call in LISTS:
            first, second = call(), call()
            self.assertIs(first.__class__, list)
            self.assertIsNot(first, second)
            self.assertEqual(first, second)
            first.append(None)
            self.assertEqual(call(), second)


class BooleansTest(unittest.TestCase):

    def test_booleans_are_not_integers(self):
        way = ("all", "care")
        for flag in (True, False):
            self.assertRaises(errors.BadRounds, rounds, way, "an", flag)
            self.assertRaises(errors.BadLimit, rest, way, "any", flag)
            self.assertRaises(errors.BadPrices, drafts, {"all": flag})
            self.assertRaises(errors.BadPrices, cheapest, way, {"all": 1, "care": flag}, "any")
            for call in (lots, without, lambda way, offers: spare(way, offers, "any")):
                self.assertRaises(errors.BadOffers, call, way, (flag,))
            self.assertRaises(errors.BadOffers, lots, way, (0, flag))
            self.assertRaises(errors.BadOffers, lots, way, (flag, 1))

    def test_integers_are_not_booleans(self):
        for number in (0, 1):
            self.assertRaises(errors.BadFlag, lambda: swell((), "any", least=number))
            self.assertRaises(errors.BadFlag, lambda: swell((), "any").shows((), "any", least=number))
            self.assertRaises(errors.BadStanding, at_end, ("care",), (number,))
            self.assertRaises(errors.BadStanding, read, ("care",), (number,), "a")

    def test_evidence_that_is_written_with_the_other_ones(self):
        place, floors = ((False,), False), fit((), "any", "a", "a").floors
        start = ((), False)
        self.assertIs(Rests(True, rest(("both",), "any", 1).rows, ["r"]).shows(("both",), "any", 1), False)
        self.assertIs(Spared({}, {(False,): "n"}).shows(("all",), (0,), "any"), False)
        self.assertIs(Swelling((2, True), "", "n", {place: 0}).shows(("all",), "any"), False)
        self.assertIs(Swelling((2, 1), "", "n", {place: False}).shows(("all",), "any"), False)
        self.assertIs(Swelling((2, 1), "", "n", {((0,), 0): 0}).shows(("all",), "any"), False)
        self.assertIs(Fitted("a", {**floors, (0, start, 0): False}).shows((), "any", "a", "a"), False)
        self.assertIs(Unfit([(place, False)]).shows(("all",), "any", "a", "n"), False)
        self.assertIs(Distinct([(((0,), 0), None, "a", "")]).shows(("all",), "any"), False)


class OrderTest(unittest.TestCase):

    def test_what_is_ascending(self):
        self.assertEqual((KINDS, CONVERSIONS), (tuple(sorted(set(KINDS))), tuple(sorted(set(CONVERSIONS)))))

    def test_returned_dicts(self):
        found = cheapest(("care",), {"pairs": 1, "all": 1}, "any")
        self.assertEqual(list(found.partings), drafts({"all": 1, "pairs": 1})[:3])
        found = spare(("both", "care", "both", "care"), (0, 1, 2, 3), "any")
        everything = lots(("both", "care", "both", "care"), (0, 1, 2, 3))
        for some in (found.good, found.fails):
            self.assertEqual(list(some), [lot for lot in everything if lot in some])


if __name__ == "__main__":
    unittest.main()
