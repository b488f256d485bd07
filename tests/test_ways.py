import unittest
from itertools import product

from helper import (HOLDING, LONG_WAYS, NEITHER, ODD, REMEMBERING, WORDS, WRONG_SIGNS, WRONG_TEXTS, WRONG_WAYS,
                    Equal, by_places, texts, ways)
from turnedends.errors import BadSign, BadStanding, BadText, BadWay
from turnedends.ways import CONVERSIONS, all_standings, at_end, first_standing, read, turned


def standings(way):
    """All standings of a way, whether they come about or not."""
    return list(product(*[(False,) if word in NEITHER else (False, True) for word in way]))


def read_on(way, standing, text):
    """The standing behind a text, and all that is given out by its signs."""
    given = ""
    for sign in text:
        standing, out = read(way, standing, sign)
        given += out
    return standing, given


def wrong_standings(way):
    """Many that are no standing of a way."""
    size = len(way)
    found = [odd for odd in ODD]
    found += [(False,) * (size + 1), [False] * size, "a" * (size + 1), {k: False for k in range(size)}]
    for k in range(size):
        found.append((False,) * (size - 1))
        for odd in (0, 1, None, "", "False", "r", Equal(), [], (), (False,)):
            found.append((False,) * k + (odd,) + (False,) * (size - k - 1))
        if way[k] in NEITHER:
            found.append((False,) * k + (True,) + (False,) * (size - k - 1))
    return found


class ConversionsTest(unittest.TestCase):

    def test_the_conversions_are_an_ascending_tuple(self):
        self.assertEqual(CONVERSIONS, ("all", "both", "care", "lone", "lones", "pairs"))
        self.assertIs(CONVERSIONS.__class__, tuple)

    def test_each_conversion(self):
        rows = {
            "": ("", "", "", "", "", ""),
            "a": ("a",) * 6,
            "n": ("rn", "n", "rn", "r", "n", "n"),
            "r": ("r", "n", "r", "r", "n", "r"),
            "rn": ("rrn", "n", "rn", "rr", "rn", "n"),
            "nr": ("rnr", "nn", "rnr", "rr", "nn", "nr"),
            "rr": ("rr", "nn", "rr", "rr", "nn", "rr"),
            "nn": ("rnrn", "nn", "rnrn", "rr", "nn", "nn"),
            "rrn": ("rrrn", "nn", "rrn", "rrr", "nrn", "rn"),
            "rnn": ("rrnrn", "nn", "rnrn", "rrr", "rnn", "nn"),
            "rar": ("rar", "nan", "rar", "rar", "nan", "rar"),
            "ran": ("rarn", "nan", "rarn", "rar", "nan", "ran"),
        }
        for text, expected in rows.items():
            self.assertEqual(tuple([turned((word,), text) for word in CONVERSIONS]), expected, text)

    def test_all_places_at_once(self):
        # A pair that a conversion makes is not turned by this same conversion.
        self.assertEqual(turned(("pairs",), "rrn"), "rn")
        self.assertEqual(turned(("pairs", "pairs"), "rrn"), "n")
        self.assertEqual(turned(("lones",), "rr"), "nn")
        self.assertEqual(turned(("all",), "rn"), "rrn")
        self.assertEqual(turned(("care",), "rnn"), "rnrn")

    def test_short_texts_by_all_short_ways(self):
        short = texts(6)
        for way in ways(2):
            for text in short:
                self.assertEqual(turned(way, text), by_places(way, text), (way, text))

    def test_shorter_texts_by_longer_ways(self):
        short = texts(4)
        for way in ways(3) + list(LONG_WAYS):
            for text in short:
                self.assertEqual(turned(way, text), by_places(way, text), (way, text))

    def test_the_first_conversion_comes_first(self):
        self.assertEqual(turned(("pairs", "all"), "rn"), "rn")
        self.assertEqual(turned(("all", "pairs"), "rn"), "rn")
        self.assertEqual(turned(("lone", "all"), "n"), "r")
        self.assertEqual(turned(("all", "lone"), "n"), "rr")

    def test_the_way_of_no_conversions(self):
        for text in texts(4):
            self.assertEqual(turned((), text), text)

    def test_ways_of_six_conversions(self):
        self.assertEqual(turned(("all",) * 6, "n"), "rrrrrrn")
        self.assertEqual(turned(("pairs",) * 6, "rrrrrrrn"), "rn")
        self.assertEqual(turned(("all",) * 6, "an" * 1000), "arrrrrrn" * 1000)

    def test_wrong_ways_and_texts(self):
        for way in WRONG_WAYS:
            for text in ("", "an"):
                with self.subTest(way=way, text=text), self.assertRaises(BadWay):
                    turned(way, text)
        for text in WRONG_TEXTS:
            for way in ((), ("care",), LONG_WAYS[0]):
                with self.subTest(way=way, text=text), self.assertRaises(BadText):
                    turned(way, text)

    def test_a_wrong_way_is_refused_ahead_of_a_wrong_text(self):
        for way in WRONG_WAYS:
            for text in WRONG_TEXTS:
                with self.subTest(way=way, text=text), self.assertRaises(BadWay):
                    turned(way, text)


class StandingsTest(unittest.TestCase):

    def test_the_first_standing(self):
        for way in ways(2) + list(LONG_WAYS):
            self.assertEqual(first_standing(way), (False,) * len(way))
            self.assertEqual([flag.__class__ for flag in first_standing(way)], [bool] * len(way))
        self.assertEqual(first_standing(()), ())

    def test_reading_by_one_conversion(self):
        # The standing, the sign, the standing behind it, and what each conversion gives out.
        rows = [
            (HOLDING, False, "a", False, {"both": "a", "lones": "a", "pairs": "a"}),
            (HOLDING, False, "n", False, {"both": "n", "lones": "n", "pairs": "n"}),
            (HOLDING, False, "r", True, {"both": "", "lones": "", "pairs": ""}),
            (HOLDING, True, "a", False, {"both": "na", "lones": "na", "pairs": "ra"}),
            (HOLDING, True, "n", False, {"both": "n", "lones": "rn", "pairs": "n"}),
            (HOLDING, True, "r", True, {"both": "n", "lones": "n", "pairs": "r"}),
            (REMEMBERING, False, "a", False, {"care": "a"}),
            (REMEMBERING, False, "n", False, {"care": "rn"}),
            (REMEMBERING, False, "r", True, {"care": "r"}),
            (REMEMBERING, True, "a", False, {"care": "a"}),
            (REMEMBERING, True, "n", False, {"care": "n"}),
            (REMEMBERING, True, "r", True, {"care": "r"}),
            (NEITHER, False, "a", False, {"all": "a", "lone": "a"}),
            (NEITHER, False, "n", False, {"all": "rn", "lone": "r"}),
            (NEITHER, False, "r", False, {"all": "r", "lone": "r"}),
        ]
        for words, flag, sign, behind, given in rows:
            self.assertEqual(sorted(given), sorted(words))
            for word in words:
                self.assertEqual(read((word,), (flag,), sign), ((behind,), given[word]), (word, flag, sign))

    def test_the_end_by_one_conversion(self):
        for word in CONVERSIONS:
            self.assertEqual(at_end((word,), (False,)), "")
        found = [at_end((word,), (True,)) for word in ("both", "care", "lones", "pairs")]
        self.assertEqual(found, ["n", "", "n", "r"])

    def test_the_end_goes_through_all_that_follow(self):
        self.assertEqual(at_end(("pairs", "lones"), (True, False)), "n")
        self.assertEqual(at_end(("pairs", "lones"), (True, True)), "nn")
        self.assertEqual(at_end(("both", "pairs"), (True, True)), "n")
        self.assertEqual(at_end(("both", "pairs"), (True, False)), "n")
        self.assertEqual(at_end(("lones", "care"), (True, True)), "n")
        self.assertEqual(at_end(("lones", "care"), (True, False)), "rn")
        self.assertEqual(at_end(("pairs", "pairs"), (True, True)), "rr")
        self.assertEqual(at_end(("both", "all", "lone"), (True, False, False)), "rr")

    def test_the_way_of_no_conversions(self):
        for sign in "anr":
            self.assertEqual(read((), (), sign), ((), sign))
        self.assertEqual(at_end((), ()), "")
        self.assertEqual(all_standings(()), [()])

    def test_reading_gives_out_what_is_turned(self):
        short = texts(5)
        for way in ways(3) + list(LONG_WAYS):
            for text in short:
                standing, given = read_on(way, first_standing(way), text)
                self.assertEqual(given + at_end(way, standing), turned(way, text), (way, text))

    def test_reading_longer_texts(self):
        for way in LONG_WAYS + (("lones", "pairs", "both"), ("care", "pairs"), ("pairs", "pairs", "pairs")):
            for text in texts(7):
                standing, given = read_on(way, first_standing(way), text)
                self.assertEqual(given + at_end(way, standing), by_places(way, text), (way, text))

    def test_the_standing_is_that_of_each_conversion(self):
        for way in ways(2) + list(LONG_WAYS):
            for text in texts(4):
                standing, _ = read_on(way, first_standing(way), text)
                self.assertEqual([flag.__class__ for flag in standing], [bool] * len(way))
                came = text
                for word, flag in zip(way, standing):
                    # What came to a conversion ends with r, or else it neither holds back nor remembers.
                    self.assertIs(flag, word not in NEITHER and came[-1:] == "r", (way, text))
                    came = read_on((word,), (False,), came)[1]

    def test_what_is_given_out_as_soon_as_a_sign_comes(self):
        way = ("pairs", "care")
        found = [read_on(way, (False, False), text) for text in ("r", "rr", "rrn", "ra", "n", "rn")]
        self.assertEqual(found, [((True, False), ""), ((True, True), "r"), ((False, False), "rn"),
                                 ((False, False), "ra"), ((False, False), "rn"), ((False, False), "rn")])

    def test_a_standing_that_does_not_come_about_is_one(self):
        way = ("pairs", "care")
        self.assertNotIn((False, True), all_standings(way))
        self.assertEqual(read(way, (False, True), "n"), ((False, False), "n"))
        self.assertEqual(read(way, (False, True), "r"), ((True, True), ""))
        self.assertEqual(at_end(way, (False, True)), "")
        self.assertEqual(at_end(("lones", "pairs"), (False, True)), "r")
        for long in LONG_WAYS:
            for standing in standings(long):
                self.assertEqual(len(read(long, standing, "r")[0]), 6)
                self.assertEqual(set(at_end(long, standing)) - {"n", "r"}, set())

    def test_reading_by_any_standing_is_reading_by_one_after_the_other(self):
        for way in ways(2) + list(LONG_WAYS[:2]):
            for standing in standings(way):
                for sign in "anr":
                    behind, came = (), sign
                    for word, flag in zip(way, standing):
                        after, came = read_on((word,), (flag,), came)
                        behind += after
                    self.assertEqual(read(way, standing, sign), (behind, came), (way, standing, sign))
                came = ""
                for word, flag in zip(way, standing):
                    after, came = read_on((word,), (flag,), came)
                    came += at_end((word,), after)
                self.assertEqual(at_end(way, standing), came, (way, standing))


class AllStandingsTest(unittest.TestCase):

    def test_all_that_come_about(self):
        short = texts(6)
        for way in ways(2) + [("pairs", "pairs", "care"), ("both", "care", "lones"), ("lones", "lones", "lones")]:
            found = sorted(set([read_on(way, first_standing(way), text)[0] for text in short]))
            self.assertEqual(sorted(all_standings(way)), found, way)

    def test_they_are_closed_and_each_comes_once(self):
        for way in ways(3) + list(LONG_WAYS):
            found = all_standings(way)
            self.assertIs(found.__class__, list)
            self.assertEqual(len(found), len(set(found)), way)
            self.assertIn(first_standing(way), found)
            for standing in found:
                for sign in "anr":
                    self.assertIn(read(way, standing, sign)[0], found, way)

    def test_ways_of_six_conversions(self):
        short = texts(8)
        for way in LONG_WAYS:
            found = sorted(set([read_on(way, first_standing(way), text)[0] for text in short]))
            self.assertEqual(sorted(all_standings(way)), found, way)
        self.assertEqual(sorted(all_standings(("pairs",) * 6)), [(True,) * k + (False,) * (6 - k) for k in range(7)])
        self.assertEqual(all_standings(("all",) * 6), [(False,) * 6])

    def test_each_list_is_a_new_one(self):
        for way in ((), ("care",), ("pairs", "care")):
            first, second = all_standings(way), all_standings(way)
            self.assertIsNot(first, second)
            first.clear()
            self.assertEqual(all_standings(way), second)


class WrongInputsTest(unittest.TestCase):

    def test_wrong_ways(self):
        for way in WRONG_WAYS:
            with self.subTest(way=way):
                self.assertRaises(BadWay, first_standing, way)
                self.assertRaises(BadWay, all_standings, way)
                self.assertRaises(BadWay, read, way, (), "a")
                self.assertRaises(BadWay, read, way, (False,), "a")
                self.assertRaises(BadWay, at_end, way, ())
                self.assertRaises(BadWay, at_end, way, (False,))

    def test_wrong_standings(self):
        for way in [(), ("care",), ("all",), ("lone",), ("pairs", "all"), ("both", "lones", "pairs"), LONG_WAYS[0]]:
            for standing in wrong_standings(way):
                with self.subTest(way=way, standing=standing):
                    self.assertRaises(BadStanding, read, way, standing, "n")
                    self.assertRaises(BadStanding, at_end, way, standing)

    def test_true_for_what_neither_holds_back_nor_remembers(self):
        for word in CONVERSIONS:
            if word in NEITHER:
                self.assertRaises(BadStanding, read, (word,), (True,), "n")
                self.assertRaises(BadStanding, at_end, (word,), (True,))
                self.assertRaises(BadStanding, at_end, ("pairs", word), (True, True))
            else:
                self.assertEqual(read((word,), (True,), "a")[0], (False,))

    def test_wrong_signs(self):
        for sign in WRONG_SIGNS:
            for way in ((), ("care",), LONG_WAYS[0]):
                with self.subTest(way=way, sign=sign), self.assertRaises(BadSign):
                    read(way, (False,) * len(way), sign)

    def test_the_error_documented_first_is_raised(self):
        for way in WRONG_WAYS:
            for standing in wrong_standings(("all",)):
                with self.subTest(way=way, standing=standing):
                    self.assertRaises(BadWay, at_end, way, standing)
                    self.assertRaises(BadWay, read, way, standing, "a")
                    self.assertRaises(BadWay, read, way, standing, "rn")
        for way in WRONG_WAYS:
            for sign in WRONG_SIGNS:
                self.assertRaises(BadWay, read, way, (), sign)
        for way in ((), ("all",), ("care", "lone")):
            for standing in wrong_standings(way):
                for sign in WRONG_SIGNS:
                    self.assertRaises(BadStanding, read, way, standing, sign)

    def test_what_is_refused_is_not_modified(self):
        way, standing = ["pairs"], [False]
        self.assertRaises(BadWay, read, way, standing, "a")
        self.assertRaises(BadStanding, read, ("pairs",), standing, "a")
        self.assertEqual((way, standing), (["pairs"], [False]))


if __name__ == "__main__":
    unittest.main()
