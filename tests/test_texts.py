import re
import unittest
from itertools import product

from helper import LONG_WAYS, ODD, WORDS, WRONG_WAYS, ways
from turnedends import errors
from turnedends.texts import read_ways, ways_text

WRONG_LINES = tuple([odd for odd in ODD if not isinstance(odd, str)]) + (
    (), ("way\n",), ["way\n"], b"way\n", {"way\n": 1}, ["way pairs", ""], ways_text)
# Each of these is no line of the form, whatever stands ahead of it and behind it.
NO_LINES = ("", " ", "way ", " way", "way  ", "way  pairs", "way pairs ", " way pairs", "way pairs  care", "way\tpairs",
            "way pairs\tcare", "way pairs\t", "Way", "WAY pairs", "ways", "wa", "wayy", "way way", "waypairs", "pairs",
            "pairs care", "all", "way pair", "way Pairs", "way pairs,care", "way pairs, care", "way any", "way bare",
            "way paired", "way none", "way ()", "('pairs', 'care')", "way 'pairs'", "way pairs\r", "way\r", "\rway",
            "way\rpairs", "\r", "way\x0bpairs", "way pairs\x0c", "way pairs\x1c", "way\x85", "way pairs\u2028",
            "way\xa0pairs", "way all pairs\0", "#", "way # all", "way all all all all all all all",
            "way pairs care pairs care pairs care pairs", "way " + "all " * 5 + "all x", "way 1", "way True")


def written(ways):
    """What is written of ways, from the words of the document."""
    text = ""
    for way in ways:
        text += "way"
        for word in way:
            text += " " + word
        text += "\n"
    return text


class WaysTextTest(unittest.TestCase):

    def test_what_is_written(self):
        self.assertEqual(ways_text([("pairs", "care")]), "way pairs care\n")
        self.assertEqual(ways_text([()]), "way\n")
        self.assertEqual(ways_text([(), (), ("all",)]), "way\nway\nway all\n")
        self.assertEqual(ways_text((("all",), ("lone", "lones"))), "way all\nway lone lones\n")
        self.assertEqual(ways_text([("all",) * 6]), "way all all all all all all\n")

    def test_no_ways(self):
        self.assertEqual((ways_text([]), ways_text(())), ("", ""))

    def test_many_ways(self):
        for some in ([way] for way in ways(3) + list(LONG_WAYS)):
            self.assertEqual(ways_text(some), written(some))
            self.assertEqual(ways_text(tuple(some)), written(some))
        everything = ways(2) + list(LONG_WAYS)
        self.assertEqual(ways_text(everything), written(everything))

    def test_what_is_neither_a_list_nor_a_tuple(self):
        for wrong in ODD + ("", "way", {(): 1}, {("all",): ("all",)}, {()}, range(0), iter([])):
            if not isinstance(wrong, (list, tuple)):
                with self.subTest(wrong=wrong), self.assertRaises(errors.BadWay):
                    ways_text(wrong)

    def test_what_is_no_way(self):
        for wrong in WRONG_WAYS:
            for some in ([wrong], (wrong,), [(), wrong], [("all",), wrong, ()], [wrong, wrong], [wrong, ("all",)]):
                with self.subTest(some=some), self.assertRaises(errors.BadWay):
                    ways_text(some)
        # A way alone is a tuple, but its items are no ways.
        self.assertRaises(errors.BadWay, ways_text, ("pairs", "care"))

    def test_what_is_handed_in_is_not_modified(self):
        some = [("all",), ()]
        ways_text(some)
        self.assertEqual(some, [("all",), ()])
        wrong = [("all",), ["all"]]
        self.assertRaises(errors.BadWay, ways_text, wrong)
        self.assertEqual(wrong, [("all",), ["all"]])


class ReadWaysTest(unittest.TestCase):

    def refuse(self, lines, row):
        with self.subTest(lines=lines), self.assertRaises(errors.BadLines) as caught:
            read_ways(lines)
        self.assertEqual(caught.exception.row, row, lines)
        self.assertIs(caught.exception.row.__class__, int)

    def test_what_is_read(self):
        self.assertEqual(read_ways("way pairs care\n"), [("pairs", "care")])
        self.assertEqual(read_ways("way\n"), [()])
        self.assertEqual(read_ways("way\nway\nway all\nway\n"), [(), (), ("all",), ()])
        self.assertEqual(read_ways("way all all all all all all\n"), [("all",) * 6])
        for found in read_ways("way\nway all\n"):
            self.assertIs(found.__class__, tuple)

    def test_an_empty_text(self):
        self.assertEqual(read_ways(""), [])
        self.assertIs(read_ways("").__class__, list)

    def test_what_is_written_is_read_back(self):
        for way in ways(4) + list(LONG_WAYS):
            self.assertEqual(read_ways(ways_text([way])), [way])
        everything = ways(3) + list(LONG_WAYS) + [()] * 3
        self.assertEqual(read_ways(ways_text(everything)), everything)
        self.assertEqual(read_ways(ways_text(tuple(everything))), everything)
        self.assertEqual(read_ways(ways_text([])), [])

    def test_what_is_read_is_written_so(self):
        for words in product(("way", " ", "\n", "all", "  "), repeat=5):
            lines = "".join(words)
            if re.fullmatch("(way( all)*\n)*", lines):
                self.assertEqual(ways_text(read_ways(lines)), lines)
            else:
                self.assertRaises(errors.BadLines, read_ways, lines)

    def test_what_is_not_a_string(self):
        for wrong in WRONG_LINES:
            self.refuse(wrong, 0)

    def test_lines_that_are_not_of_the_form(self):
        for line in NO_LINES:
            self.refuse(line + "\n", 0)
            self.refuse(line + "\nway\n", 0)
            self.refuse("way\n" + line + "\n", 1)
            self.refuse("way pairs\nway\n" + line + "\nway all\n", 2)
            self.refuse("way\n" + line + "\nway x\n" + line + "\n", 1)
            # The line is at fault ahead of what follows the last line feed.
            self.refuse(line + "\nway", 0)
            self.refuse("way\nway\n" + line + "\nway", 2)

    def test_a_last_line_without_a_line_feed(self):
        for rest in ("way", "way pairs", "w", " ", "x", "\r", "way\r", "all", "way pairs care"):
            self.refuse(rest, 0)
            self.refuse("way\n" + rest, 1)
            self.refuse("way pairs\nway\nway care\n" + rest, 3)

    def test_an_empty_line(self):
        self.refuse("\n", 0)
        self.refuse("\n\n", 0)
        self.refuse("way\n\n", 1)
        self.refuse("\nway\n", 0)
        self.refuse("way\n\nway\n", 1)
        self.refuse("way all\nway\nway care\n\n\n", 3)

    def test_a_carriage_return(self):
        self.refuse("way\r\n", 0)
        self.refuse("way pairs\r\nway\r\n", 0)
        self.refuse("way pairs\nway\r\n", 1)
        self.refuse("way\rway\n", 0)
        self.refuse("way\n\rway\n", 1)
        self.refuse("way\n\r", 1)

    def test_seven_conversions_in_a_line(self):
        for word in WORDS:
            self.assertEqual(read_ways("way" + f" {word}" * 6 + "\n"), [(word,) * 6])
            self.refuse("way" + f" {word}" * 7 + "\n", 0)
            self.refuse("way\nway" + f" {word}" * 7 + "\n", 1)

    def test_each_list_is_a_new_one(self):
        lines = "way\nway all\n"
        first, second = read_ways(lines), read_ways(lines)
        self.assertIsNot(first, second)
        first.clear()
        self.assertEqual(read_ways(lines), second)


if __name__ == "__main__":
    unittest.main()
