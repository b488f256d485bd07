import unittest

from turnedends import errors

NAMES = ("BadText", "BadKind", "BadWay", "BadStanding", "BadSign", "BadRounds", "BadLimit", "BadPrices",
         "BadOffers", "TooMany", "NothingDone", "BadFlag", "BadWanted", "BadLines")


class ErrorsTest(unittest.TestCase):

    def test_turn_error_is_a_value_error(self):
        self.assertEqual(errors.TurnError.__bases__, (ValueError,))

    def test_the_subclasses_are_direct_ones_and_no_more(self):
        found = [kind.__name__ for kind in errors.TurnError.__subclasses__()]
        self.assertEqual(sorted(found), sorted(NAMES))
        for name in NAMES:
            self.assertEqual(getattr(errors, name).__bases__, (errors.TurnError,))

    def test_each_can_be_raised_and_caught_as_a_turn_error(self):
        for name in NAMES:
            with self.subTest(name), self.assertRaises(errors.TurnError) as caught:
                raise getattr(errors, name)(0)
            self.assertIs(caught.exception.__class__, getattr(errors, name))

    def test_bad_lines_has_its_row(self):
        for row in (0, 1, 70):
            self.assertEqual(errors.BadLines(row).row, row)
            self.assertIn(str(row), str(errors.BadLines(row)))


if __name__ == "__main__":
    unittest.main()
