"""The examples of the document's interface, word for word."""

import doctest
import pathlib
import unittest

ROWS = """
>>> from placetrade.rows import alike, bar, changes, least, many, number_of, numbered, steps
>>> from placetrade.trades import Trade
>>> told = Trade(3, ((0, 1), (1, 2)))
>>> [alike(told, (1, 0, 2), (0, 2, 1)), alike(told, (2, 0), (0, 2)), bar(told, (2, 0), (0, 2)), bar(told, (0, 0), (0, 1))]
[True, False, ('pair', 0, 2, 0), ('letter', 0)]
>>> [changes(told, (1, 0, 2), (0, 2, 1)), least(told, (1, 2, 0)), steps(told, (1, 2, 0)), many(told, (1, 0, 2)), number_of(told, (1, 0, 2))]
[(0, 1), (1, 2, 0), ((1, 2), (0,)), 3, 2]
>>> [numbered(told, (1, 0, 2), 0), numbered(told, (1, 0, 2), 1), steps(told, ()), many(told, ())]
[(0, 1, 2), (0, 2, 1), (), 1]
"""
BEGINNINGS = """
>>> from placetrade.beginnings import are_turned, common, either_way, rest, together, turned
>>> from placetrade.trades import Trade
>>> told = Trade(3, ((0, 1), (1, 2)))
>>> [rest(told, (1,), (0, 2, 1)), rest(told, (2,), (0, 2, 1)), common(told, (0, 1), (1, 2)), together(told, (0, 1), (1, 0, 2)), together(told, (0,), (2,))]
[(0, 2), None, (1,), (0, 1, 2), None]
>>> [either_way(told, (1, 1), (0, 2)), either_way(told, (0,), (2,)), turned(told, (0, 2, 1)), are_turned(told, (0, 2), (2, 0))]
[True, False, [(0, 1, 2), (1, 2, 0)], True]
"""
ENDS = """
>>> from placetrade.ends import beginnings, common_end, count_beginnings, crossed, rest_ahead
>>> from placetrade.trades import Trade
>>> told = Trade(3, ((0, 1), (1, 2)))
>>> [rest_ahead(told, (0,), (0, 2, 1)), rest_ahead(told, (1,), (0, 2, 1)), common_end(told, (0, 1), (2, 1)), count_beginnings(told, (0, 2, 1), 2)]
[None, (0, 2), (1,), 2]
>>> [beginnings(told, (0, 2, 1)), crossed(told, (0, 1), (2,), (0, 2), (1,)), crossed(told, (0,), (2,), (2,), (0,))]
[[(), (0,), (0, 1), (0, 1, 2), (0, 2), (1,)], ((0,), (1,), (2,), ()), None]
"""
ROOTS = """
>>> from placetrade.roots import parts, power, root
>>> from placetrade.trades import Trade
>>> told = Trade(3, ((0, 1), (1, 2)))
>>> [parts(told, (0, 1, 2)), power(told, (1, 0), 2), root(told, (0, 1, 2, 0, 2, 1)), root(told, (1, 1, 1)), root(told, (0, 2)), root(told, ())]
[[(0, 2), (1,)], (0, 0, 1, 1), ((0, 1, 2), 2), ((1,), 3), ((0, 2), 1), ((), 1)]
"""
COUNTS = """
>>> from placetrade.counts import groups, how_many, how_many_by
>>> from placetrade.trades import Trade
>>> told = Trade(3, ((0, 1), (1, 2)))
>>> [groups(told), how_many(told, 2), how_many(told, 3), how_many(Trade(1, ()), 500), how_many_by(told, 10 ** 30, 7)]
[[(), (0,), (0, 1), (1,), (1, 2), (2,)], 7, 15, 1, 3]
"""


class Examples(unittest.TestCase):
    def run_text(self, name, text):
        test = doctest.DocTestParser().get_doctest(text, {}, name, None, None)
        told = []
        result = doctest.DocTestRunner(verbose=False).run(test, out=told.append)
        self.assertGreater(result.attempted, 0)
        self.assertEqual(result.failed, 0, "".join(told))

    def test_rows(self):
        self.run_text("placetrade/rows.py", ROWS)

    def test_beginnings(self):
        self.run_text("placetrade/beginnings.py", BEGINNINGS)

    def test_ends(self):
        self.run_text("placetrade/ends.py", ENDS)

    def test_roots(self):
        self.run_text("placetrade/roots.py", ROOTS)

    def test_counts(self):
        self.run_text("placetrade/counts.py", COUNTS)

    def test_readme(self):
        readme = pathlib.Path(__file__).parent.parent / "README.md"
        self.run_text("README.md", readme.read_text().replace("```", ""))


if __name__ == "__main__":
    unittest.main()
