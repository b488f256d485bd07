import importlib
import inspect
import unittest

# For each file, its functions with their arguments, and its classes.
FUNCTIONS = {
    "errors": {},
    "kinds": {"is_of": "(text, kind)"},
    "ways": {
        "turned": "(way, text)",
        "first_standing": "(way)",
        "read": "(way, standing, sign)",
        "at_end": "(way, standing)",
        "all_standings": "(way)",
    },
}
CLASSES = {
    "errors": ("TurnError", "BadText", "BadKind", "BadWay", "BadStanding", "BadSign", "BadRounds", "BadLimit",
               "BadPrices", "BadOffers", "TooMany", "NothingDone", "BadFlag", "BadWanted", "BadLines"),
}


class InterfaceTest(unittest.TestCase):

    def test_each_function_is_defined_in_its_file_with_its_arguments(self):
        for name, functions in FUNCTIONS.items():
            module = importlib.import_module("turnedends." + name)
            for word, arguments in functions.items():
                found = getattr(module, word)
                self.assertTrue(inspect.isfunction(found), word)
                self.assertEqual(found.__module__, module.__name__, word)
                self.assertEqual(str(inspect.signature(found)), arguments, word)

    def test_each_class_is_defined_in_its_file(self):
        for name, classes in CLASSES.items():
            module = importlib.import_module("turnedends." + name)
            for word in classes:
                found = getattr(module, word)
                self.assertTrue(inspect.isclass(found), word)
                self.assertEqual(found.__module__, module.__name__, word)


if __name__ == "__main__":
    unittest.main()
