import unittest
from itertools import permutations, product

from helper import (LONG_WAYS, NO_TEXTS, ODD, WORDS, WRONG_KINDS, WRONG_PRICES, WRONG_WAYS, Images, check_equality,
                    check_refusals, ways)
from turnedends import errors
from turnedends.comparing import Alike, Parted, are_alike, compare
from turnedends.drafting import Cheapest, NoDraft, cheapest, drafts, least_price
from turnedends.kinds import KINDS
from turnedends.leading import Leads
from turnedends.resting import Restless

FIRST = ((), (), False, "", "")
SIX = {"all": 3, "both": 9, "care": 1, "lone": 4, "lones": 2, "pairs": 5}
ONES = {word: 1 for word in WORDS}
PRICES = [{"all": 1}, {"pairs": 9}, {"care": 2, "all": 1, "pairs": 1}, {"both": 4, "lones": 1, "pairs": 1},
          {"lone": 1, "lones": 1, "all": 9}, ONES, SIX]
SOME = [(), ("all",), ("both",), ("care",), ("pairs", "all"), ("lones", "pairs"), ("pairs", "pairs", "care"),
        ("pairs",) * 4] + list(LONG_WAYS[:4])


def cost(draft, prices):
    return sum([prices[word] for word in draft])


def ordered(prices):
    """All drafts in order, from the words of the document."""
    found = [draft for many in range(4) for draft in product(sorted(prices), repeat=many)]
    return sorted(sorted(sorted(found), key=len), key=lambda draft: cost(draft, prices))


def all_found(wanted):
    """Ways with prices, a kind, and what cheapest returns for them, if it is of the class that is wanted."""
    found = [(way, prices, kind, cheapest(way, prices, kind)) for way in SOME for prices in PRICES[:5]
             for kind in KINDS]
    return [row for row in found if row[3].__class__ is wanted]


class DraftsTest(unittest.TestCase):

    def test_the_order(self):
        for prices in PRICES:
            found = drafts(prices)
            self.assertIs(found.__class__, list)
            self.assertEqual(found, ordered(prices))
            self.assertEqual(len(found), sum([len(prices) ** many for many in range(4)]))
            self.assertEqual(found[0], ())

    def test_one_price_and_six(self):
        self.assertEqual(drafts({"lone": 9}), [(), ("lone",), ("lone",) * 2, ("lone",) * 3])
        self.assertEqual(len(drafts(ONES)), 1 + 6 + 36 + 216)
        self.assertEqual(drafts(ONES), ways(3))
        self.assertEqual(drafts({"all": 1, "both": 3})[:7], [
            (), ("all",), ("all", "all"), ("both",), ("all", "all", "all"), ("all", "both"), ("both", "all")])

    def test_what_costs_as_much_is_ordered_by_lengths_then_as_tuples(self):
        self.assertEqual(drafts({"pairs": 1, "all": 2})[:8], [
            (), ("pairs",), ("all",), ("pairs", "pairs"), ("all", "pairs"), ("pairs", "all"), ("pairs",) * 3,
            ("all", "all")])

    def test_prices_in_any_order(self):
        prices = {"care": 2, "all": 1, "pairs": 1}
        for words in permutations(prices):
            self.assertEqual(drafts({word: prices[word] for word in words}), drafts(prices))

    def test_each_list_is_a_new_one(self):
        first, second = drafts(SIX), drafts(SIX)
        self.assertIsNot(first, second)
        first.clear()
        self.assertEqual(drafts(SIX), second)

    def test_wrong_inputs(self):
        check_refusals(self, [drafts], [(SIX, WRONG_PRICES, errors.BadPrices)])

    def test_all_prices_that_may_be(self):
        for word in WORDS:
            for price in range(-1, 12):
                if 1 <= price <= 9:
                    self.assertEqual(drafts({word: price})[1], (word,))
                else:
                    self.assertRaises(errors.BadPrices, drafts, {word: price})


class CheapestWayTest(unittest.TestCase):

    def check(self, images, way, prices):
        """What cheapest and least_price tell is what turning all short texts by all drafts tells."""
        wanted = images.of(way)
        for kind in KINDS:
            good = [draft for draft in ordered(prices)
                    if all(images.of(draft)[text] == wanted[text] for text in images.of_kind[kind])]
            found = cheapest(way, prices, kind)
            self.assertIs(found.shows(way, prices, kind), True, (way, prices, kind))
            if not good:
                self.assertIs(found.__class__, NoDraft)
                self.assertIsNone(least_price(way, prices, kind))
                self.assertEqual(list(found.partings), ordered(prices))
                continue
            self.assertIs(found.__class__, Cheapest, (way, prices, kind))
            price = cost(good[0], prices)
            self.assertEqual(least_price(way, prices, kind), price, (way, prices, kind))
            self.assertIn(found.draft, good)
            self.assertEqual(cost(found.draft, prices), price)
            self.assertIs(are_alike(found.draft, way, kind), True)
            self.assertEqual(list(found.partings), [draft for draft in ordered(prices) if cost(draft, prices) < price])

    def test_short_ways(self):
        images = Images(5)
        for way in ways(2):
            for prices in PRICES:
                self.check(images, way, prices)

    def test_longer_ways(self):
        # Six of pairs and three of them differ by a text of five signs.
        images = Images(5)
        for way in SOME + ways(3)[43::9]:
            for prices in PRICES[2:]:
                self.check(images, way, prices)

    def test_the_draft_of_no_conversions(self):
        for kind in KINDS:
            found = cheapest((), {"all": 1}, kind)
            self.assertEqual((found.draft, found.partings), ((), {}))
            self.assertEqual(Alike(found.rows), compare((), (), kind))
            self.assertEqual(least_price((), {"all": 1}, kind), 0)
        self.assertEqual(least_price(("all", "pairs"), SIX, "any"), 0)
        self.assertEqual(least_price(("lone",), {"lones": 9}, "lone"), 0)

    def test_the_draft_costs_each_conversion_as_often_as_it_is_in_it(self):
        self.assertEqual(least_price(("all",) * 3, {"all": 7}, "any"), 21)
        self.assertEqual(least_price(("pairs",) * 2, {"pairs": 4, "all": 1}, "any"), 8)
        self.assertEqual(cheapest(("all",) * 3, {"all": 7}, "any").draft, ("all",) * 3)

    def test_the_longer_one_may_be_cheaper(self):
        self.assertEqual(least_price(("care",), {"care": 9, "pairs": 1, "all": 1}, "any"), 2)
        self.assertEqual(least_price(("care",), {"care": 1, "pairs": 1, "all": 1}, "any"), 1)
        self.assertEqual(cheapest(("care",), {"care": 9, "pairs": 1, "all": 1}, "any").draft, ("pairs", "all"))

    def test_no_draft(self):
        found = cheapest(("all",) * 4, {"all": 1}, "any")
        self.assertEqual(list(found.partings), [(), ("all",), ("all",) * 2, ("all",) * 3])
        self.assertIsNone(least_price(("all",) * 4, ONES, "any"))
        self.assertEqual(len(cheapest(("all",) * 4, ONES, "any").partings), 259)
        self.assertEqual(least_price(("all",) * 4, ONES, "lone"), 0)

    def test_kinds(self):
        self.assertEqual([least_price(("both",), {"lones": 3, "pairs": 1}, kind) for kind in KINDS], [4, 0, 3, 1])
        self.assertEqual([least_price(("pairs", "all"), {"all": 1}, kind) for kind in KINDS], [None, 1, 0, 0])

    def test_prices_in_any_order(self):
        prices = {"care": 2, "all": 1, "pairs": 1}
        for words in permutations(prices):
            other = {word: prices[word] for word in words}
            for way in (("care",), ("both",), ("pairs", "pairs")):
                found = cheapest(way, other, "any")
                self.assertEqual(found, cheapest(way, prices, "any"))
                self.assertEqual(list(found.partings), list(cheapest(way, prices, "any").partings))
                self.assertIs(found.shows(way, prices, "any"), True)


class CheapestTest(unittest.TestCase):

    def test_what_shows(self):
        self.assertIs(Cheapest((), [FIRST], {}).shows((), {"all": 1}, "any"), True)
        rows = compare(("pairs", "all"), ("care",), "any").rows
        partings = {("pairs",): "n", (): "n", ("all",): "rn"}
        prices = {"pairs": 1, "all": 1}
        self.assertIs(Cheapest(("pairs", "all"), rows, partings).shows(("care",), prices, "any"), True)

    def test_rows_are_those_of_an_alike(self):
        for way, prices, kind, found in all_found(Cheapest):
            self.assertIs(Alike(found.rows).shows(found.draft, way, kind), True)

    def test_rows_are_needed(self):
        for way, prices, kind, found in all_found(Cheapest):
            draft, rows, partings = found.draft, found.rows, found.partings
            for k in range(len(rows)):
                left = rows[:k] + rows[k + 1:]
                self.assertIs(Cheapest(draft, left, partings).shows(way, prices, kind), False)
                first, second, waits, ahead, lag = rows[k]
                for row in ((first, second, not waits, ahead, lag), (first, second, waits, ahead + "n", lag),
                            (first, second, waits, ahead, lag + "x")):
                    self.assertIs(Cheapest(draft, left + [row], partings).shows(way, prices, kind), False)
            self.assertIs(Cheapest(draft, [], partings).shows(way, prices, kind), False)
            self.assertIs(Cheapest(draft, rows * 2, partings).shows(way, prices, kind), True)
            uneven = rows + [rows[0][:2] + (False, "a", "")]
            self.assertIs(Cheapest(draft, uneven, partings).shows(way, prices, kind), False)
            no_row = rows + [rows[0][:3] + ("a", "a")]
            self.assertIs(Cheapest(draft, no_row, partings).shows(way, prices, kind), False)

    def test_rows_are_of_the_draft_first(self):
        rows = compare(("care",), ("pairs", "all"), "any").rows
        for row in rows:
            self.assertEqual((len(row[0]), len(row[1])), (1, 2))
        found = cheapest(("pairs", "all"), {"care": 1}, "any")
        self.assertIs(Cheapest(("care",), rows, found.partings).shows(("pairs", "all"), {"care": 1}, "any"), True)
        other = [(row[1], row[0]) + row[2:] for row in rows]
        self.assertIs(Cheapest(("care",), other, found.partings).shows(("pairs", "all"), {"care": 1}, "any"), False)

    def test_a_standing_that_does_not_come_about(self):
        way, prices = ("pairs", "care"), {"pairs": 1, "care": 1}
        found = cheapest(way, prices, "any")
        self.assertEqual(found.draft, way)
        more = ((False, True), (False, True), False, "", "")
        self.assertNotIn(more, found.rows)
        self.assertIs(Cheapest(way, found.rows + [more], found.partings).shows(way, prices, "any"), True)
        odd = ((False, True), (False, False), False, "", "")
        self.assertIs(Cheapest(way, found.rows + [odd], found.partings).shows(way, prices, "any"), False)

    def test_partings_are_needed(self):
        for way, prices, kind, found in all_found(Cheapest):
            for draft in found.partings:
                left = {key: text for key, text in found.partings.items() if key != draft}
                self.assertIs(Cheapest(found.draft, found.rows, left).shows(way, prices, kind), False)
                for text in ("", "a") + NO_TEXTS + ODD:
                    partings = {**found.partings, draft: text}
                    self.assertIs(Cheapest(found.draft, found.rows, partings).shows(way, prices, kind), False)

    def test_partings_of_drafts_that_do_not_cost_less(self):
        way, prices = ("care",), {"pairs": 1, "all": 1}
        found = cheapest(way, prices, "any")
        self.assertEqual(list(found.partings), [(), ("all",), ("pairs",)])
        # Each of these texts does part its draft, but the draft costs as much or more, or is none.
        for draft, text in ((("all", "all"), "n"), (("pairs", "pairs"), "n"), (("all",) * 3, "n"), (("both",), "n"),
                            (("lone",), "n"), (("all",) * 4, "n")):
            self.assertIs(Parted(text).shows(draft, way, "any"), True)
            partings = {**found.partings, draft: text}
            self.assertIs(Cheapest(found.draft, found.rows, partings).shows(way, prices, "any"), False, draft)
            partings = {**partings}
            partings.pop(("all",))
            self.assertIs(Cheapest(found.draft, found.rows, partings).shows(way, prices, "any"), False, draft)

    def test_partings_in_any_order(self):
        for way, prices, kind, found in all_found(Cheapest):
            partings = {draft: found.partings[draft] for draft in reversed(found.partings)}
            self.assertIs(Cheapest(found.draft, found.rows, partings).shows(way, prices, kind), True)
            self.assertEqual(Cheapest(found.draft, found.rows, partings), found)

    def test_partings_of_another_kind(self):
        found = cheapest(("care",), {"pairs": 1, "all": 1}, "bare")
        self.assertEqual(found.draft, ("all",))
        self.assertIs(Cheapest(("all",), found.rows, {(): "n"}).shows(("care",), {"all": 1}, "bare"), True)
        self.assertIs(Cheapest(("all",), found.rows, {(): "nr"}).shows(("care",), {"all": 1}, "bare"), False)

    def test_another_good_draft_that_costs_as_much(self):
        prices = {"care": 2, "pairs": 1, "all": 1}
        for draft in (("care",), ("pairs", "all")):
            rows = compare(draft, ("care",), "any").rows
            partings = {(): "n", ("all",): "rn", ("pairs",): "n"}
            self.assertIs(Cheapest(draft, rows, partings).shows(("care",), prices, "any"), True)

    def test_a_draft_that_is_not_the_cheapest(self):
        prices = {"care": 1, "pairs": 1, "all": 1}
        rows = compare(("pairs", "all"), ("care",), "any").rows
        for text in ("", "n", "rn"):
            partings = {(): "n", ("all",): "rn", ("care",): text, ("pairs",): "n"}
            self.assertIs(Cheapest(("pairs", "all"), rows, partings).shows(("care",), prices, "any"), False)
        partings = {(): "n", ("all",): "rn", ("pairs",): "n"}
        self.assertIs(Cheapest(("pairs", "all"), rows, partings).shows(("care",), prices, "any"), False)

    def test_a_draft_that_is_not_good(self):
        for draft in (("all",), ("pairs",), ("pairs", "pairs")):
            rows = compare(("pairs", "all"), ("care",), "any").rows
            self.assertIs(Cheapest(draft, rows, {(): "n"}).shows(("care",), {"pairs": 1, "all": 1}, "any"), False)
        self.assertIs(Cheapest((), [FIRST], {}).shows(("all",), {"all": 1}, "any"), False)

    def test_what_is_no_draft(self):
        # Each of these ways is alike with the wanted one, but has more conversions, or one without a price.
        for draft in (("all",) * 4, ("all", "pairs", "all", "pairs"), ("lone", "lone"), ("both",), ("all", "both")):
            rows = compare(draft, draft, "any").rows
            prices = {"all": 9, "pairs": 9}
            partings = {key: "n" for key in drafts(prices)}
            for some in ({}, {(): "n"}, partings):
                self.assertIs(Cheapest(draft, rows, some).shows(draft, prices, "any"), False, draft)
        for odd in ODD:
            for draft in (odd, (odd,)):
                self.assertIs(Cheapest(draft, [FIRST], {}).shows((), {"all": 1}, "any"), False)

    def test_the_current_attributes(self):
        way, prices = ("care",), {"pairs": 1, "all": 1}
        found = cheapest(way, prices, "any")
        row = found.rows.pop()
        self.assertIs(found.shows(way, prices, "any"), False)
        found.rows.append(row)
        text = found.partings.pop(("all",))
        self.assertIs(found.shows(way, prices, "any"), False)
        found.partings[("all",)] = text
        self.assertIs(found.shows(way, prices, "any"), True)
        found.draft = ("all", "pairs")
        self.assertIs(found.shows(way, prices, "any"), False)


class NoDraftTest(unittest.TestCase):

    def test_what_shows(self):
        partings = {(): "r", ("all",): "r", ("all",) * 2: "r", ("all",) * 3: "r"}
        self.assertIs(NoDraft(partings).shows(("both",), {"all": 9}, "lone"), True)
        self.assertIs(NoDraft(partings).shows(("both",), {"all": 9}, "any"), True)
        self.assertIs(NoDraft(partings).shows(("both",), {"all": 9}, "paired"), False)
        self.assertIs(NoDraft(partings).shows(("both",), {"care": 9}, "lone"), False)
        self.assertIs(NoDraft(partings).shows(("lone",), {"all": 9}, "lone"), False)

    def test_partings_are_needed(self):
        for way, prices, kind, found in all_found(NoDraft):
            for draft in found.partings:
                left = {key: text for key, text in found.partings.items() if key != draft}
                self.assertIs(NoDraft(left).shows(way, prices, kind), False)
                for text in ("", "a", "x", None):
                    self.assertIs(NoDraft({**found.partings, draft: text}).shows(way, prices, kind), False)
            self.assertIs(NoDraft({}).shows(way, prices, kind), False)

    def test_partings_that_are_more(self):
        found = cheapest(("both",), {"all": 1}, "any")
        for draft in (("all",) * 4, ("care",), ("all", "care")):
            self.assertIs(NoDraft({**found.partings, draft: "r"}).shows(("both",), {"all": 1}, "any"), False)
            partings = {**found.partings, draft: "r"}
            partings.pop(())
            self.assertIs(NoDraft(partings).shows(("both",), {"all": 1}, "any"), False)

    def test_partings_in_any_order(self):
        for way, prices, kind, found in all_found(NoDraft):
            partings = {draft: found.partings[draft] for draft in reversed(found.partings)}
            self.assertIs(NoDraft(partings).shows(way, prices, kind), True)
            self.assertEqual(NoDraft(partings), found)

    def test_there_is_a_draft(self):
        for text in ("", "a", "n", "r", "rn"):
            partings = {draft: text for draft in drafts({"all": 1})}
            self.assertIs(NoDraft(partings).shows(("all",), {"all": 1}, "any"), False)

    def test_what_is_no_text(self):
        for text in NO_TEXTS + ODD:
            partings = {draft: text for draft in drafts({"all": 1})}
            self.assertIs(NoDraft(partings).shows(("both",), {"all": 1}, "any"), False)

    def test_the_current_partings(self):
        found = cheapest(("both",), {"all": 1}, "any")
        found.partings[()] = "n"
        self.assertIs(found.shows(("both",), {"all": 1}, "any"), False)
        found.partings = {draft: "rr" for draft in drafts({"all": 1})}
        self.assertIs(found.shows(("both",), {"all": 1}, "any"), True)


class ConventionsTest(unittest.TestCase):

    def test_wrong_inputs(self):
        calls = [cheapest, least_price, Cheapest((), [FIRST], {}).shows, NoDraft({}).shows]
        check_refusals(self, calls, [(("care",), WRONG_WAYS, errors.BadWay), ({"all": 1}, WRONG_PRICES, errors.BadPrices),
                                     ("any", WRONG_KINDS, errors.BadKind)])

    def test_what_is_handed_in_is_not_modified(self):
        prices = {"pairs": 1, "all": 1, "care": 3}
        for kind in KINDS:
            for call in (cheapest, least_price, Cheapest((), [], {}).shows, NoDraft({}).shows):
                call(("care",), prices, kind)
        drafts(prices)
        self.assertEqual(list(prices.items()), [("pairs", 1), ("all", 1), ("care", 3)])
        way, wrong, kind = ["pairs"], {"all": 0}, ["any"]
        for call in (cheapest, least_price, Cheapest((), [], {}).shows, NoDraft({}).shows):
            self.assertRaises(errors.BadWay, call, way, wrong, kind)
            self.assertRaises(errors.BadPrices, call, (), wrong, kind)
            self.assertRaises(errors.BadKind, call, (), prices, kind)
        self.assertEqual((way, wrong, kind), (["pairs"], {"all": 0}, ["any"]))

    def test_equality(self):
        partings = {(): "n", ("all",): "r"}
        check_equality(self, [Cheapest(("all",), [FIRST], partings), Cheapest(("all",), [FIRST], partings)],
                       [Cheapest((), [FIRST], partings), Cheapest(("all",), [], partings),
                        Cheapest(("all",), [FIRST], {}), Cheapest(("all",), [FIRST], {(): "n", ("all",): "n"}),
                        Cheapest(("all",), [FIRST], {(): "n"}), NoDraft(partings), Alike([FIRST])])
        check_equality(self, [NoDraft(partings), NoDraft({("all",): "r", (): "n"})],
                       [NoDraft({}), NoDraft({(): "n"}), NoDraft({(): "n", ("all",): "n"}), partings])
        check_equality(self, [NoDraft({})], [Cheapest((), [], {}), Restless([]), Leads([]), Alike([]), Parted("")])

    def test_everything_that_is_returned_is_new(self):
        for way in SOME:
            for kind in KINDS:
                prices = PRICES[2]
                first, second = cheapest(way, prices, kind), cheapest(way, prices, kind)
                self.assertIsNot(first, second)
                self.assertEqual(first, second)
                self.assertIsNot(first.partings, second.partings)
                first.partings[("lone",)] = "n"
                if first.__class__ is Cheapest:
                    self.assertIsNot(first.rows, second.rows)
                    first.rows.clear()
                self.assertEqual(cheapest(way, prices, kind), second)
                self.assertIs(second.shows(way, prices, kind), True)

    def test_what_is_handed_in_is_not_kept(self):
        rows, partings = [FIRST], {(): "n"}
        found, none = Cheapest(("all",), rows, partings), NoDraft(partings)
        rows.append(FIRST)
        partings[("all",)] = "r"
        self.assertEqual((found.rows, found.partings, none.partings), ([FIRST], {(): "n"}, {(): "n"}))
        found.rows.clear()
        found.partings.clear()
        none.partings.clear()
        self.assertEqual((rows, partings), ([FIRST, FIRST], {(): "n", ("all",): "r"}))

    def test_prices_are_not_kept(self):
        prices = {"all": 1}
        found = cheapest(("both",), prices, "any")
        prices["both"] = 1
        self.assertEqual(len(found.partings), 4)
        self.assertIs(found.shows(("both",), prices, "any"), False)
        self.assertIs(found.shows(("both",), {"all": 1}, "any"), True)


if __name__ == "__main__":
    unittest.main()
