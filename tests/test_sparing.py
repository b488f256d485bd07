import unittest
from itertools import combinations

from helper import (LONG_WAYS, NO_TEXTS, ODD, WRONG_KINDS, WRONG_LOTS, WRONG_OFFERS, WRONG_WAYS, Images, check_equality,
                    check_refusals, ways)
from turnedends import errors
from turnedends.comparing import Alike, Parted, compare
from turnedends.drafting import Cheapest, NoDraft
from turnedends.kinds import KINDS
from turnedends.sparing import Spared, greatest_lots, lots, spare, without

SIX = LONG_WAYS[0]
# Ways with offers, of which some lots are good for some kinds, and some are not.
SOME = [(("both", "both", "care"), (0, 1)), (("care",), (0,)), (("all",), (0,)), (("pairs", "all"), (0, 1)),
        (("both", "care"), (0, 1)), (("lones", "pairs", "both"), (0, 1, 2)), (("all", "pairs", "all"), (0, 1, 2)),
        (("care", "care", "pairs", "both"), (0, 1, 2, 3)), (("lone", "lones"), (1,)), (SIX, (0, 1, 4, 5)),
        (LONG_WAYS[2], (0, 2, 3, 5)), (LONG_WAYS[4], (1, 2, 3, 5)), (LONG_WAYS[7], (2, 3))]


def all_offers(way):
    """All offers of a way."""
    return [offers for many in range(1, 5) for offers in combinations(range(len(way)), many)]


def all_lots(offers):
    """All lots in order, from the words of the document."""
    return [lot for many in range(len(offers) + 1) for lot in combinations(offers, many)]


def left_out(way, lot):
    """The way without a lot, from the words of the document."""
    return tuple([way[k] for k in range(len(way)) if k not in lot])


def is_greatest(lot, good):
    return lot in good and not any(set(lot) < set(other) for other in good)


def do_show(way, offers, kind, good, fails):
    """Whether lots with rows and lots with texts are as in the document: from its words."""
    real = [lot for lot in all_lots(offers) if compare(way, left_out(way, lot), kind).__class__ is Alike]
    greatest = [lot for lot in real if is_greatest(lot, real)]
    failing = [lot for lot in all_lots(offers) if not any(set(lot) <= set(other) for other in greatest)]
    if set(good) != set(greatest) or set(fails) != set(failing):
        return False
    return (all(Alike(rows).shows(way, left_out(way, lot), kind) for lot, rows in good.items())
            and all(Parted(text).shows(way, left_out(way, lot), kind) for lot, text in fails.items()))


def all_found():
    return [(way, offers, kind, spare(way, offers, kind)) for way, offers in SOME for kind in KINDS]


class LotsTest(unittest.TestCase):

    def test_the_order(self):
        for way in ways(2)[1:] + list(LONG_WAYS):
            for offers in all_offers(way):
                found = lots(way, offers)
                self.assertIs(found.__class__, list)
                self.assertEqual(found, all_lots(offers))
                self.assertEqual(len(found), 2 ** len(offers))

    def test_one_offer_and_four(self):
        self.assertEqual(lots(("care",), (0,)), [(), (0,)])
        self.assertEqual(lots(SIX, (5,)), [(), (5,)])
        self.assertEqual(lots(SIX, (0, 2, 3, 5)), [
            (), (0,), (2,), (3,), (5,), (0, 2), (0, 3), (0, 5), (2, 3), (2, 5), (3, 5), (0, 2, 3), (0, 2, 5), (0, 3, 5),
            (2, 3, 5), (0, 2, 3, 5)])

    def test_each_list_is_a_new_one(self):
        first, second = lots(SIX, (0, 1)), lots(SIX, (0, 1))
        self.assertIsNot(first, second)
        first.clear()
        self.assertEqual(lots(SIX, (0, 1)), second)

    def test_wrong_inputs(self):
        check_refusals(self, [lots], [(SIX, WRONG_WAYS, errors.BadWay), ((0, 1), WRONG_OFFERS, errors.BadOffers)])

    def test_indices_that_the_way_does_not_have(self):
        for way in ways(2) + list(LONG_WAYS):
            for index in range(-2, 9):
                if 0 <= index < len(way):
                    self.assertEqual(lots(way, (index,)), [(), (index,)])
                else:
                    self.assertRaises(errors.BadOffers, lots, way, (index,))
                    self.assertRaises(errors.BadOffers, spare, way, (index,), "any")
                    self.assertRaises(errors.BadOffers, greatest_lots, way, (index,), "any")
                    self.assertRaises(errors.BadOffers, without, way, (index,))


class WithoutTest(unittest.TestCase):

    def test_lots_of_any_length(self):
        for way in ways(2) + list(LONG_WAYS):
            for many in range(len(way) + 1):
                for lot in combinations(range(len(way)), many):
                    self.assertEqual(without(way, lot), left_out(way, lot))
        self.assertEqual(without(SIX, ()), SIX)
        self.assertEqual(without(SIX, (0, 1, 2, 3, 4)), ("lone",))
        self.assertEqual(without(SIX, (0, 1, 2, 3, 4, 5)), ())
        self.assertEqual(without((), ()), ())

    def test_wrong_inputs(self):
        check_refusals(self, [without], [(SIX, WRONG_WAYS, errors.BadWay), ((0, 1), WRONG_LOTS, errors.BadOffers)])
        self.assertRaises(errors.BadOffers, without, (), (0,))
        self.assertRaises(errors.BadOffers, without, ("all",), (0, 1))


class SpareTest(unittest.TestCase):

    def check(self, images, way, offers):
        """What spare and greatest_lots tell is what turning all short texts without each lot tells."""
        image = images.of(way)
        for kind in KINDS:
            good = [lot for lot in all_lots(offers)
                    if all(images.of(left_out(way, lot))[text] == image[text] for text in images.of_kind[kind])]
            greatest = [lot for lot in good if is_greatest(lot, good)]
            found = spare(way, offers, kind)
            self.assertIs(found.__class__, Spared)
            self.assertEqual(greatest_lots(way, offers, kind), greatest, (way, offers, kind))
            self.assertEqual(list(found.good), greatest)
            self.assertEqual(list(found.fails), [lot for lot in all_lots(offers)
                                                 if not any(set(lot) <= set(other) for other in greatest)])
            self.assertIs(found.shows(way, offers, kind), True, (way, offers, kind))
            self.assertTrue(do_show(way, offers, kind, found.good, found.fails), (way, offers, kind))

    def test_short_ways(self):
        images = Images(5)
        for way in ways(3)[1:]:
            for offers in all_offers(way):
                self.check(images, way, offers)

    def test_longer_ways(self):
        # Six of pairs and five of them differ by a text of seven signs.
        images = Images(7)
        for way in LONG_WAYS + (("pairs", "care", "pairs", "all"), ("both", "care", "both", "care", "both")):
            for offers in all_offers(way)[::7]:
                self.check(images, way, offers)
        for way, offers in SOME:
            self.check(images, way, offers)

    def test_the_way_of_no_conversions_has_no_offers(self):
        for offers in ((), (0,), (0, 1)):
            for call in (lots, lambda way, offers: spare(way, offers, "any")):
                self.assertRaises(errors.BadOffers, call, (), offers)

    def test_kinds(self):
        way, offers = ("pairs", "care", "lones"), (0, 1, 2)
        found = {kind: greatest_lots(way, offers, kind) for kind in KINDS}
        self.assertEqual(found, {"any": [()], "bare": [(0, 2)], "lone": [(0, 1)], "paired": [(0, 1, 2)]})

    def test_no_lot_is_good_but_the_empty_one(self):
        for way, offers in ((("all",), (0,)), (("pairs",) * 6, (0, 1, 2, 3)), (("lone", "lones", "all"), (0, 1, 2))):
            found = spare(way, offers, "any")
            self.assertEqual(list(found.good), [()])
            self.assertEqual(list(found.fails), all_lots(offers)[1:])

    def test_all_can_be_left_out(self):
        found = spare(("care", "pairs", "care", "pairs"), (0, 1, 2, 3), "bare")
        self.assertEqual((list(found.good), found.fails), ([(0, 1, 2, 3)], {}))
        self.assertEqual(Alike(found.good[0, 1, 2, 3]), compare(("care", "pairs", "care", "pairs"), (), "bare"))

    def test_several_greatest_lots(self):
        way, offers = ("both", "care", "both", "care"), (0, 1, 2, 3)
        found = [greatest_lots(way, offers, kind) for kind in KINDS]
        self.assertEqual(found, [[(0, 1), (1, 2), (2, 3)], [(0, 1, 2), (0, 2, 3)], [(0, 1), (1, 2), (2, 3)], [offers]])
        self.assertEqual(list(spare(way, offers, "any").fails), [
            (0, 2), (0, 3), (1, 3), (0, 1, 2), (0, 1, 3), (0, 2, 3), (1, 2, 3), offers])

    def test_a_lot_that_is_not_good_within_a_greatest_one(self):
        # Without both the way turns nothing, as it does with both; but not without one alone.
        way, offers = ("all", "pairs"), (0, 1)
        self.assertEqual(greatest_lots(way, offers, "any"), [(0, 1)])
        self.assertEqual(spare(way, offers, "any").fails, {})
        self.assertEqual([compare(way, left_out(way, lot), "any").__class__ for lot in ((0,), (1,))], [Parted] * 2)


class SparedTest(unittest.TestCase):

    def test_what_shows(self):
        first = ((False,), (), False, "", "")
        rows = [((False,), (False,), False, "", ""), ((True,), (True,), False, "", "")]
        self.assertIs(Spared({(): rows}, {(0,): "n"}).shows(("care",), (0,), "any"), True)
        self.assertIs(Spared({(): rows}, {(0,): "arnn"}).shows(("care",), (0,), "any"), True)
        self.assertIs(Spared({(): rows}, {(0,): "rn"}).shows(("care",), (0,), "any"), False)
        self.assertIs(Spared({(0,): [first]}, {}).shows(("lone",), (0,), "lone"), True)
        self.assertIs(Spared({(0,): [first]}, {}).shows(("lone",), (0,), "any"), False)

    def test_rows_are_those_of_an_alike(self):
        for way, offers, kind, found in all_found():
            for lot, rows in found.good.items():
                self.assertIs(rows.__class__, list)
                self.assertIs(Alike(rows).shows(way, left_out(way, lot), kind), True)

    def test_rows_are_of_the_way_first(self):
        way = ("both", "both", "care")
        rows = compare(way, ("both", "care"), "any").rows
        fails = spare(way, (0,), "any").fails
        self.assertIs(Spared({(0,): rows}, fails).shows(way, (0,), "any"), True)
        swapped = [(row[1], row[0], row[2], row[4], row[3]) for row in rows]
        self.assertIs(Alike(swapped).shows(("both", "care"), way, "any"), True)
        self.assertIs(Spared({(0,): swapped}, fails).shows(way, (0,), "any"), False)

    def test_rows_are_needed(self):
        for way, offers, kind, found in all_found():
            for lot, rows in found.good.items():
                for k in range(len(rows)):
                    left = rows[:k] + rows[k + 1:]
                    self.assertIs(Spared({**found.good, lot: left}, found.fails).shows(way, offers, kind), False)
                    first, second, waits, ahead, lag = rows[k]
                    for row in ((first, second, not waits, ahead, lag), (first, second, waits, ahead + "n", lag),
                                (first, second, waits, ahead, lag + "x"), (first, second, waits, "r", "r")):
                        good = {**found.good, lot: left + [row]}
                        self.assertIs(Spared(good, found.fails).shows(way, offers, kind), False)
                self.assertIs(Spared({**found.good, lot: []}, found.fails).shows(way, offers, kind), False)

    def test_rows_more_than_once_and_more_than_needed(self):
        for way, offers, kind, found in all_found():
            good = {lot: rows[::-1] + rows for lot, rows in found.good.items()}
            self.assertIs(Spared(good, found.fails).shows(way, offers, kind), True)
        # This row does not come about, but all is closed behind it.
        way = ("pairs", "care")
        found = spare(way, (0, 1), "any")
        self.assertEqual(list(found.good), [()])
        more, odd = [((False, True), (False, flag), False, "", "") for flag in (True, False)]
        self.assertNotIn(more, found.good[()])
        self.assertIs(Spared({(): found.good[()] + [more]}, found.fails).shows(way, (0, 1), "any"), True)
        self.assertIs(Spared({(): found.good[()] + [odd]}, found.fails).shows(way, (0, 1), "any"), False)

    def test_lots_are_needed(self):
        for way, offers, kind, found in all_found():
            for lot in found.good:
                good = {key: rows for key, rows in found.good.items() if key != lot}
                self.assertIs(Spared(good, found.fails).shows(way, offers, kind), False)
                for other in ((5,), (6,), (-1,), offers + offers, offers[::-1] + (0,), lot + (7,), (0, 1, 2, 3, 4)):
                    self.assertIs(Spared({**good, other: found.good[lot]}, found.fails).shows(way, offers, kind),
                                  False)
            for lot in found.fails:
                fails = {key: text for key, text in found.fails.items() if key != lot}
                self.assertIs(Spared(found.good, fails).shows(way, offers, kind), False)
                for other in ((5, 6), (6,), (-1,), lot + lot, lot + (7,)):
                    self.assertIs(Spared(found.good, {**fails, other: found.fails[lot]}).shows(way, offers, kind),
                                  False)
            self.assertIs(Spared({}, {}).shows(way, offers, kind), False)
            self.assertIs(Spared({}, found.fails).shows(way, offers, kind), False)

    def test_lots_that_are_more(self):
        for way, offers, kind, found in all_found():
            for lot in all_lots(range(len(way))):
                if lot in found.good or lot in found.fails:
                    continue
                rows = compare(way, left_out(way, lot), kind)
                if rows.__class__ is Alike:
                    # Good, but within a greatest one, or not offered.
                    self.assertIs(Spared({**found.good, lot: rows.rows}, found.fails).shows(way, offers, kind), False)
                else:
                    # Not good, but within a greatest one, or not offered.
                    fails = {**found.fails, lot: rows.text}
                    self.assertIs(Spared(found.good, fails).shows(way, offers, kind), False)

    def test_a_lot_within_a_greatest_one_instead_of_one_that_is_to_fail(self):
        way, offers = ("all", "pairs", "lone"), (0, 1, 2)
        found = spare(way, offers, "any")
        self.assertEqual(list(found.good), [(0, 1)])
        self.assertEqual(list(found.fails), [(2,), (0, 2), (1, 2), (0, 1, 2)])
        for lot in ((0,), (1,)):
            text = compare(way, left_out(way, lot), "any").text
            for missing in found.fails:
                fails = {key: found.fails[key] for key in found.fails if key != missing}
                self.assertIs(Spared(found.good, {**fails, lot: text}).shows(way, offers, "any"), False)

    def test_a_good_lot_that_is_not_a_greatest_one(self):
        way, offers = ("both", "both", "care"), (0, 1)
        rows = {lot: compare(way, left_out(way, lot), "bare").rows for lot in all_lots(offers)}
        self.assertIs(Spared({(0, 1): rows[0, 1]}, {}).shows(way, offers, "bare"), True)
        for lot in ((), (0,), (1,)):
            self.assertIs(Spared({lot: rows[lot]}, {}).shows(way, offers, "bare"), False)
            self.assertIs(Spared({lot: rows[lot], (0, 1): rows[0, 1]}, {}).shows(way, offers, "bare"), False)
        self.assertIs(Spared({(0,): rows[0,], (1,): rows[1,]}, {}).shows(way, offers, "bare"), False)
        self.assertIs(Spared({(0,): rows[0,], (1,): rows[1,]}, {(0, 1): "n"}).shows(way, offers, "bare"), False)

    def test_lots_in_any_order(self):
        for way, offers, kind, found in all_found():
            good = {lot: found.good[lot] for lot in reversed(found.good)}
            fails = {lot: found.fails[lot] for lot in reversed(found.fails)}
            self.assertIs(Spared(good, fails).shows(way, offers, kind), True)
            self.assertEqual(Spared(good, fails), found)

    def test_a_lot_that_is_written_with_booleans(self):
        good, fails = {(): compare(("all",), ("all",), "any").rows}, {(0,): "n"}
        self.assertIs(Spared(good, fails).shows(("all",), (0,), "any"), True)
        self.assertIs(Spared(good, {(False,): "n"}).shows(("all",), (0,), "any"), False)
        rows = compare(("both",), (), "bare").rows
        self.assertIs(Spared({(0,): rows}, {}).shows(("both",), (0,), "bare"), True)
        self.assertIs(Spared({(False,): rows}, {}).shows(("both",), (0,), "bare"), False)

    def test_texts_that_do_not_part(self):
        for way, offers, kind, found in all_found():
            for lot in found.fails:
                for text in ("", "a", "aa") + NO_TEXTS + ODD:
                    fails = {**found.fails, lot: text}
                    self.assertIs(Spared(found.good, fails).shows(way, offers, kind), False, (lot, text))

    def test_texts_of_another_kind(self):
        way, offers = ("care",), (0,)
        for kind, text in (("bare", "nr"), ("bare", "rnn"), ("any", "rn")):
            found = spare(way, offers, kind)
            self.assertIs(found.shows(way, offers, kind), True)
            self.assertIs(Spared(found.good, {(0,): text}).shows(way, offers, kind), False)

    def test_other_ways_offers_and_kinds(self):
        way, offers = ("both", "both", "care"), (0, 1)
        found = spare(way, offers, "any")
        self.assertIs(found.shows(way, offers, "any"), True)
        self.assertIs(found.shows(way, offers, "bare"), False)
        self.assertIs(found.shows(way, (0,), "any"), False)
        self.assertIs(found.shows(way, (0, 1, 2), "any"), False)
        self.assertIs(found.shows(("both", "pairs", "care"), offers, "any"), False)

    def test_the_current_attributes(self):
        way, offers = ("both", "both", "care"), (0, 1)
        found = spare(way, offers, "any")
        row = found.good[0,].pop()
        self.assertIs(found.shows(way, offers, "any"), False)
        found.good[0,].append(row)
        self.assertIs(found.shows(way, offers, "any"), True)
        text = found.fails.pop((0, 1))
        self.assertIs(found.shows(way, offers, "any"), False)
        found.fails = {(0, 1): "a" + text}
        self.assertIs(found.shows(way, offers, "any"), True)
        found.good = {(0,): found.good[0,]}
        self.assertIs(found.shows(way, offers, "any"), False)


class ConventionsTest(unittest.TestCase):

    def test_wrong_inputs(self):
        calls = [spare, greatest_lots, Spared({}, {}).shows, spare(("care",), (0,), "any").shows]
        check_refusals(self, calls, [(SIX, WRONG_WAYS, errors.BadWay), ((0, 5), WRONG_OFFERS, errors.BadOffers),
                                     ("any", WRONG_KINDS, errors.BadKind)])

    def test_what_is_refused_is_not_modified(self):
        way, offers, kind = ["pairs"], [0], ["any"]
        found = spare(("care",), (0,), "any")
        for call in (spare, greatest_lots, found.shows):
            self.assertRaises(errors.BadWay, call, way, offers, kind)
            self.assertRaises(errors.BadOffers, call, ("all",), offers, kind)
            self.assertRaises(errors.BadKind, call, ("all",), (0,), kind)
        self.assertEqual((way, offers, kind), (["pairs"], [0], ["any"]))
        self.assertEqual(found, spare(("care",), (0,), "any"))

    def test_equality(self):
        row = ((), (), False, "", "")
        good, fails = {(): [row], (0,): []}, {(1,): "n"}
        check_equality(self, [Spared(good, fails), Spared({(0,): [], (): [row]}, {(1,): "n"})],
                       [Spared({}, {}), Spared(good, {}), Spared({}, fails), Spared({**good, (): []}, fails),
                        Spared(good, {(1,): "r"}), Spared(good, {**fails, (2,): "n"}), Spared({(): [row]}, fails),
                        (good, fails)])
        check_equality(self, [Spared({}, {})], [Alike([]), Parted(""), NoDraft({}), Cheapest((), [], {})])

    def test_everything_that_is_returned_is_new(self):
        for way, offers in SOME:
            for kind in KINDS:
                first, second = spare(way, offers, kind), spare(way, offers, kind)
                names = greatest_lots(way, offers, kind)
                self.assertIsNot(first, second)
                self.assertEqual(first, second)
                for lot in second.good:
                    self.assertIsNot(first.good[lot], second.good[lot])
                    first.good[lot].clear()
                first.good.clear()
                first.fails[9,] = "n"
                self.assertEqual(spare(way, offers, kind), second)
                self.assertIs(second.shows(way, offers, kind), True)
                names.append(None)
                self.assertEqual(greatest_lots(way, offers, kind), names[:-1])

    def test_what_is_handed_in_is_not_kept(self):
        row = ((), (), False, "", "")
        good, fails = {(0,): [row]}, {(1,): "n"}
        found = Spared(good, fails)
        good[0,].append(row)
        good[()] = []
        fails[1,] = "r"
        self.assertEqual((found.good, found.fails), ({(0,): [row]}, {(1,): "n"}))
        found.good[0,].clear()
        found.fails.clear()
        self.assertEqual((good, fails), ({(0,): [row, row], (): []}, {(1,): "r"}))


if __name__ == "__main__":
    unittest.main()
