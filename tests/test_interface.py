import importlib
import inspect
import unittest

# For each file, its functions with their arguments, and its classes.
FUNCTIONS = {
    "errors": {},
    "kinds": {"is_of": "(text, kind)"},
    "ways": {
        "turned": "(way, text)",
        "first_standing": "(way)",
        "read": "(way, standing, sign)",
        "at_end": "(way, standing)",
        "all_standings": "(way)",
    },
    "comparing": {
        "compare": "(one, other, kind)",
        "are_alike": "(one, other, kind)",
        "first_parting": "(one, other, kind)",
        "returns": "(way, kind)",
    },
    "leading": {
        "lead": "(way, kind, other)",
        "does_lead": "(way, kind, other)",
        "first_stray": "(way, kind, other)",
    },
    "resting": {
        "rounds": "(way, text, many)",
        "rest": "(way, kind, limit)",
        "least_rounds": "(way, kind, limit)",
    },
    "drafting": {
        "drafts": "(prices)",
        "cheapest": "(way, prices, kind)",
        "least_price": "(way, prices, kind)",
    },
    "sparing": {
        "lots": "(way, offers)",
        "without": "(way, lot)",
        "spare": "(way, offers, kind)",
        "greatest_lots": "(way, offers, kind)",
    },
    "merging": {
        "merge": "(way, kind)",
        "does_merge": "(way, kind)",
        "least_merging": "(way, kind)",
    },
    "sources": {
        "sources": "(way, text, kind)",
        "first_source": "(way, text, kind)",
    },
    "stores": {},
    "texts": {
        "ways_text": "(ways)",
        "read_ways": "(lines)",
    },
    "rates": {
        "swell": "(way, kind, *, least=False)",
        "greatest_rate": "(way, kind)",
        "least_rate": "(way, kind)",
    },
    "fitting": {
        "distance": "(text, other)",
        "fit": "(way, kind, text, wanted)",
        "least_change": "(way, kind, text, wanted)",
    },
}
CLASSES = {
    "errors": ("TurnError", "BadText", "BadKind", "BadWay", "BadStanding", "BadSign", "BadRounds", "BadLimit",
               "BadPrices", "BadOffers", "TooMany", "NothingDone", "BadFlag", "BadWanted", "BadLines"),
    "comparing": ("Alike", "Parted"),
    "leading": ("Leads", "Strays"),
    "resting": ("Rests", "Restless"),
    "drafting": ("Cheapest", "NoDraft"),
    "sparing": ("Spared",),
    "merging": ("Distinct", "Merged"),
    "stores": ("Store",),
    "rates": ("Swelling",),
    "fitting": ("Fitted", "Unfit"),
}
# For each class with evidence, what it is made of, and the arguments of its method.
EVIDENCE = {
    "comparing": {"Alike": ("rows", "(self, one, other, kind)"), "Parted": ("text", "(self, one, other, kind)")},
    "leading": {"Leads": ("places", "(self, way, kind, other)"), "Strays": ("text", "(self, way, kind, other)")},
    "resting": {"Rests": ("number, rows, texts", "(self, way, kind, limit)"),
                "Restless": ("texts", "(self, way, kind, limit)")},
    "drafting": {"Cheapest": ("draft, rows, partings", "(self, way, prices, kind)"),
                 "NoDraft": ("partings", "(self, way, prices, kind)")},
    "sparing": {"Spared": ("good, fails", "(self, way, offers, kind)")},
    "merging": {"Distinct": ("chases", "(self, way, kind)"), "Merged": ("one, other", "(self, way, kind)")},
    "rates": {"Swelling": ("rate, ahead, ring, heights", "(self, way, kind, *, least=False)")},
    "fitting": {"Fitted": ("text, floors", "(self, way, kind, text, wanted)"),
                "Unfit": ("places", "(self, way, kind, text, wanted)")},
}
# What an attribute may be, by its name.
VALUES = {"rows": [], "text": "a", "texts": ["n"], "places": [], "number": 1, "draft": ("all",), "partings": {(): "n"},
          "good": {(): []}, "fails": {(0,): "n"}, "chases": [], "one": "n", "other": "r", "rate": (1, 1), "ahead": "a",
          "ring": "n", "heights": {((), False): 0}, "floors": {(0, ((), False), 0): 0}}
METHODS_OF_A_STORE = {"__len__": "(self)", "looks_changed": "(self)", "edit": "(self, text)", "take_in": "(self)",
                      "put_out": "(self)", "undo": "(self)", "branch": "(self)", "trial": "(self)",
                      "attempt": "(self, work)"}


class InterfaceTest(unittest.TestCase):

    def test_each_function_is_defined_in_its_file_with_its_arguments(self):
        for name, functions in FUNCTIONS.items():
            module = importlib.import_module("turnedends." + name)
            for word, arguments in functions.items():
                found = getattr(module, word)
                self.assertTrue(inspect.isfunction(found), word)
                self.assertEqual(found.__module__, module.__name__, word)
                self.assertEqual(str(inspect.signature(found)), arguments, word)

    def test_each_class_is_defined_in_its_file(self):
        for name, classes in CLASSES.items():
            module = importlib.import_module("turnedends." + name)
            for word in classes:
                found = getattr(module, word)
                self.assertTrue(inspect.isclass(found), word)
                self.assertEqual(found.__module__, module.__name__, word)

    def test_the_evidence(self):
        for name, classes in EVIDENCE.items():
            module = importlib.import_module("turnedends." + name)
            for word, (made_of, arguments) in classes.items():
                kind = getattr(module, word)
                self.assertEqual(kind.__bases__, (object,), word)
                self.assertEqual(str(inspect.signature(kind)), f"({made_of})", word)
                self.assertEqual(str(inspect.signature(vars(kind)["shows"])), arguments, word)
                attributes = made_of.split(", ")
                found = kind(**{key: VALUES[key] for key in attributes})
                self.assertEqual(vars(found), {key: VALUES[key] for key in attributes}, word)

    def test_the_store(self):
        store = importlib.import_module("turnedends.stores").Store
        self.assertEqual(store.__bases__, (object,))
        self.assertEqual(str(inspect.signature(store)), "(taken, put)")
        for name, arguments in METHODS_OF_A_STORE.items():
            self.assertTrue(inspect.isfunction(vars(store)[name]), name)
            self.assertEqual(str(inspect.signature(vars(store)[name])), arguments, name)
        for name in ("kept", "working", "journal"):
            self.assertIs(vars(store)[name].__class__, property, name)
            self.assertRaises(AttributeError, setattr, store((), ()), name, "a")


if __name__ == "__main__":
    unittest.main()
