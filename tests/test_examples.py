"""The examples that the document and the README give, each run as it stands there."""

import doctest
import unittest
from pathlib import Path

README = Path(__file__).resolve().parent.parent / "README.md"
EXAMPLES = {
    "kinds": """
>>> from turnedends.kinds import KINDS, is_of
>>> [[is_of(text, kind) for kind in KINDS] for text in ('', 'ann', 'arn', 'rr', 'r')]
[[True, True, True, True], [True, True, False, False], [True, False, False, True], [True, False, True, False], [True, False, True, False]]
""",
    "ways": """
>>> from turnedends.ways import CONVERSIONS, all_standings, at_end, read, turned
>>> way, text = ('pairs', 'care'), 'arnrran'
>>> [[turned((word,), text) for word in CONVERSIONS], read(way, (False, False), 'r'), read(way, (True, False), 'n'), at_end(way, (True, False)), sorted(all_standings(way))]
[['arrnrrarn', 'annnan', 'arnrrarn', 'arrrrar', 'arnnnan', 'anrran'], ((True, False), ''), ((False, False), 'rn'), 'r', [(False, False), (True, False), (True, True)]]
""",
    "comparing": """
>>> from turnedends.comparing import Alike, Parted, are_alike, first_parting, returns
>>> [are_alike(('pairs', 'all'), ('care',), 'any'), first_parting(('all',), ('care',), 'any'), are_alike(('all',), ('care',), 'bare'), [returns(('pairs', 'care'), kind) for kind in ('any', 'bare', 'paired')], Parted('arn').shows(('all',), ('care',), 'any'), Alike([]).shows((), (), 'bare')]
[True, 2, True, [False, False, True], True, False]
""",
    "leading": """
>>> from turnedends.leading import Strays, does_lead, first_stray
>>> [does_lead(('both',), 'any', 'bare'), does_lead(('both', 'all'), 'any', 'paired'), [first_stray(('care',), kind, 'paired') for kind in ('any', 'bare', 'lone')], first_stray(('all',), 'paired', 'paired'), Strays('arn').shows(('all',), 'paired', 'paired')]
[True, True, [1, None, 1], 2, True]
""",
    "resting": """
>>> from turnedends.resting import Restless, least_rounds, rest, rounds
>>> [rounds(('all',), 'an', 3), [least_rounds((word,), 'any', 4) for word in ('all', 'both', 'care', 'pairs')], [least_rounds(('pairs',), kind, 4) for kind in ('bare', 'paired')], rest(('pairs',), 'paired', 1).number, Restless(['n', 'n']).shows(('all',), 'bare', 1)]
[['arn', 'arrn', 'arrrn'], [None, 1, 1, None], [0, 1], 1, True]
""",
    "drafting": """
>>> from turnedends.drafting import cheapest, drafts, least_price
>>> way = ('pairs', 'all')
>>> found = [least_price(way, prices, 'any') for prices in ({'care': 2, 'pairs': 1, 'all': 1}, {'care': 1}, {'both': 1}, {'all': 1, 'pairs': 3})]
>>> [found, drafts({'care': 2, 'all': 1})[:6], list(cheapest(way, {'care': 2, 'all': 1}, 'any').partings), least_price(way, {'all': 1}, 'bare')]
[[2, 1, None, 4], [(), ('all',), ('care',), ('all', 'all'), ('all', 'care'), ('care', 'all')], [(), ('all',)], 1]
""",
    "sparing": """
>>> from turnedends.sparing import greatest_lots, lots, spare, without
>>> way, offers = ('both', 'both', 'care'), (0, 1)
>>> [lots(way, offers), [greatest_lots(way, offers, kind) for kind in ('any', 'bare', 'paired')], list(spare(way, offers, 'any').fails), without(way, (0, 2))]
[[(), (0,), (1,), (0, 1)], [[(0,), (1,)], [(0, 1)], [(0, 1)]], [(0, 1)], ('both',)]
""",
    "merging": """
>>> from turnedends.merging import Merged, does_merge, least_merging, merge
>>> found = [[least_merging((word,), kind) for kind in ('any', 'bare', 'paired')] for word in ('all', 'both', 'care', 'lone', 'pairs')]
>>> [found, does_merge(('both', 'all'), 'paired'), Merged('n', 'rn').shows(('pairs',), 'any'), merge(('all',), 'any').shows(('all',), 'any')]
[[[None, None, None], [2, None, None], [3, None, None], [2, None, None], [3, None, None]], False, True, True]
""",
    "sources": """
>>> from turnedends.sources import first_source, sources
>>> [sources(('care',), 'arn', 'any'), sources(('both',), 'n', 'any'), sources(('both',), 'n', 'paired'), first_source(('all',), 'n', 'any'), sources((), 'ar', 'lone')]
[['an', 'arn'], ['n', 'r', 'rn'], ['rn'], None, ['ar']]
""",
    "stores": """
>>> from turnedends.stores import Store
>>> store = Store(('both',), ('care',))
>>> rows = [store.edit('arnan'), store.take_in(), store.put_out(), store.edit('arnar')]
>>> [rows, store.kept, store.working, store.undo(), store.working, store.journal[1], len(store), Store((), ('all',)).looks_changed()]
[[True, False, False, False], 'anan', 'arnar', 'edit', 'arnarn', ('take', 'anan', 'arnan'), 3, False]
""",
    "texts": """
>>> from turnedends.texts import read_ways, ways_text
>>> [ways_text([('pairs', 'care'), ()]), read_ways('way pairs care\\nway\\n')]
['way pairs care\\nway\\n', [('pairs', 'care'), ()]]
""",
    "rates": """
>>> from turnedends.rates import Swelling, greatest_rate, least_rate
>>> both = [[greatest_rate(way, kind), least_rate(way, kind)] for way, kind in ((('all',), 'any'), (('all',), 'paired'), (('pairs',), 'any'))]
>>> [both, greatest_rate(('all', 'all'), 'bare'), Swelling((2, 1), '', 'n', {((False,), False): 0}).shows(('all',), 'any')]
[[[(2, 1), (1, 1)], [(3, 2), (1, 1)], [(1, 1), (1, 2)]], (3, 1), True]
""",
    "fitting": """
>>> from turnedends.fitting import distance, fit, least_change
>>> rows = [(('care',), 'n', 'rn'), (('care',), 'an', 'an'), (('pairs',), 'rn', 'r'), (('both',), 'aa', 'n')]
>>> [[least_change(way, 'any', text, wanted) for way, text, wanted in rows], fit(('pairs',), 'any', 'rn', 'r').text, distance('arn', 'ran'), fit(('care',), 'any', '', 'n').shows(('care',), 'any', '', 'n')]
[[0, None, 1, 2], 'r', 2, True]
""",
}


class ExamplesTest(unittest.TestCase):

    def check(self, name, text):
        found = []
        example = doctest.DocTestParser().get_doctest(text, {}, name, None, None)
        doctest.DocTestRunner(verbose=False).run(example, out=found.append)
        self.assertGreater(len(example.examples), 1)
        self.assertEqual("".join(found), "")

    def test_the_examples(self):
        for name, text in EXAMPLES.items():
            with self.subTest(name):
                self.check(name, text)

    def test_the_examples_of_all_modules_together(self):
        self.assertEqual(len(EXAMPLES), 13)
        self.check("all modules", "".join(EXAMPLES.values()))

    def test_the_example_of_the_readme(self):
        blocks = README.read_text("utf-8").split("```\n")[1::2]
        for block in blocks:
            if block.startswith(">>>"):
                self.check("README", block)


if __name__ == "__main__":
    unittest.main()
