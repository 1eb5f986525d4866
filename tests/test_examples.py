"""The examples of the document's interface, word for word."""

import doctest
import pathlib
import unittest

ROWS = """
>>> from placetrade.rows import alike, bar, changes, least, many, number_of, numbered, steps
>>> from placetrade.trades import Trade
>>> told = Trade(3, ((0, 1), (1, 2)))
>>> [alike(told, (1, 0, 2), (0, 2, 1)), alike(told, (2, 0), (0, 2)), bar(told, (2, 0), (0, 2)), bar(told, (0, 0), (0, 1))]
[True, False, ('pair', 0, 2, 0), ('letter', 0)]
>>> [changes(told, (1, 0, 2), (0, 2, 1)), least(told, (1, 2, 0)), steps(told, (1, 2, 0)), many(told, (1, 0, 2)), number_of(told, (1, 0, 2))]
[(0, 1), (1, 2, 0), ((1, 2), (0,)), 3, 2]
>>> [numbered(told, (1, 0, 2), 0), numbered(told, (1, 0, 2), 1), steps(told, ()), many(told, ())]
[(0, 1, 2), (0, 2, 1), (), 1]
"""


class Examples(unittest.TestCase):
    def run_text(self, name, text):
        test = doctest.DocTestParser().get_doctest(text, {}, name, None, None)
        told = []
        result = doctest.DocTestRunner(verbose=False).run(test, out=told.append)
        self.assertGreater(result.attempted, 0)
        self.assertEqual(result.failed, 0, "".join(told))

    def test_rows(self):
        self.run_text("placetrade/rows.py", ROWS)

    def test_readme(self):
        readme = pathlib.Path(__file__).parent.parent / "README.md"
        self.run_text("README.md", readme.read_text().replace("```", ""))


if __name__ == "__main__":
    unittest.main()
