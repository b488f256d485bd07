"""The examples that the document and the README give, each run as it stands there."""

import doctest
import unittest
from pathlib import Path

README = Path(__file__).resolve().parent.parent / "README.md"
EXAMPLES = {
    "kinds": """
>>> from turnedends.kinds import KINDS, is_of
>>> [[is_of(text, kind) for kind in KINDS] for text in ('', 'ann', 'arn', 'rr', 'r')]
[[True, True, True, True], [True, True, False, False], [True, False, False, True], [True, False, True, False], [True, False, True, False]]
""",
    "ways": """
>>> from turnedends.ways import CONVERSIONS, all_standings, at_end, read, turned
>>> way, text = ('pairs', 'care'), 'arnrran'
>>> [[turned((word,), text) for word in CONVERSIONS], read(way, (False, False), 'r'), read(way, (True, False), 'n'), at_end(way, (True, False)), sorted(all_standings(way))]
[['arrnrrarn', 'annnan', 'arnrrarn', 'arrrrar', 'arnnnan', 'anrran'], ((True, False), ''), ((False, False), 'rn'), 'r', [(False, False), (True, False), (True, True)]]
""",
}


class ExamplesTest(unittest.TestCase):

    def check(self, name, text):
        found = []
        example = doctest.DocTestParser().get_doctest(text, {}, name, None, None)
        doctest.DocTestRunner(verbose=False).run(example, out=found.append)
        self.assertGreater(len(example.examples), 1)
        self.assertEqual("".join(found), "")

    def test_the_examples(self):
        for name, text in EXAMPLES.items():
            with self.subTest(name):
                self.check(name, text)

    def test_the_example_of_the_readme(self):
        blocks = README.read_text("utf-8").split("```\n")[1::2]
        for block in blocks:
            if block.startswith(">>>"):
                self.check("README", block)


if __name__ == "__main__":
    unittest.main()
