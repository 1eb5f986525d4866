"""The examples of the document's interface, word for word."""

import contextlib
import doctest
import io
import pathlib
import unittest

from placetrade.errors import TradeError

ROWS = """
>>> from placetrade.rows import alike, bar, changes, least, many, number_of, numbered, steps
>>> from placetrade.trades import Trade
>>> told = Trade(3, ((0, 1), (1, 2)))
>>> [alike(told, (1, 0, 2), (0, 2, 1)), alike(told, (2, 0), (0, 2)), bar(told, (2, 0), (0, 2)), bar(told, (0, 0), (0, 1))]
[True, False, ('pair', 0, 2, 0), ('letter', 0)]
>>> [changes(told, (1, 0, 2), (0, 2, 1)), least(told, (1, 2, 0)), steps(told, (1, 2, 0)), many(told, (1, 0, 2)), number_of(told, (1, 0, 2))]
[(0, 1), (1, 2, 0), ((1, 2), (0,)), 3, 2]
>>> [numbered(told, (1, 0, 2), 0), numbered(told, (1, 0, 2), 1), steps(told, ()), many(told, ())]
[(0, 1, 2), (0, 2, 1), (), 1]
"""
BEGINNINGS = """
>>> from placetrade.beginnings import are_turned, common, either_way, rest, together, turned
>>> from placetrade.trades import Trade
>>> told = Trade(3, ((0, 1), (1, 2)))
>>> [rest(told, (1,), (0, 2, 1)), rest(told, (2,), (0, 2, 1)), common(told, (0, 1), (1, 2)), together(told, (0, 1), (1, 0, 2)), together(told, (0,), (2,))]
[(0, 2), None, (1,), (0, 1, 2), None]
>>> [either_way(told, (1, 1), (0, 2)), either_way(told, (0,), (2,)), turned(told, (0, 2, 1)), are_turned(told, (0, 2), (2, 0))]
[True, False, [(0, 1, 2), (1, 2, 0)], True]
"""
ENDS = """
>>> from placetrade.ends import beginnings, common_end, count_beginnings, crossed, rest_ahead
>>> from placetrade.trades import Trade
>>> told = Trade(3, ((0, 1), (1, 2)))
>>> [rest_ahead(told, (0,), (0, 2, 1)), rest_ahead(told, (1,), (0, 2, 1)), common_end(told, (0, 1), (2, 1)), count_beginnings(told, (0, 2, 1), 2)]
[None, (0, 2), (1,), 2]
>>> [beginnings(told, (0, 2, 1)), crossed(told, (0, 1), (2,), (0, 2), (1,)), crossed(told, (0,), (2,), (2,), (0,))]
[[(), (0,), (0, 1), (0, 1, 2), (0, 2), (1,)], ((0,), (1,), (2,), ()), None]
"""
ROOTS = """
>>> from placetrade.roots import parts, power, root
>>> from placetrade.trades import Trade
>>> told = Trade(3, ((0, 1), (1, 2)))
>>> [parts(told, (0, 1, 2)), power(told, (1, 0), 2), root(told, (0, 1, 2, 0, 2, 1)), root(told, (1, 1, 1)), root(told, (0, 2)), root(told, ())]
[[(0, 2), (1,)], (0, 0, 1, 1), ((0, 1, 2), 2), ((1,), 3), ((0, 2), 1), ((), 1)]
"""
COUNTS = """
>>> from placetrade.counts import groups, how_many, how_many_by
>>> from placetrade.trades import Trade
>>> told = Trade(3, ((0, 1), (1, 2)))
>>> [groups(told), how_many(told, 2), how_many(told, 3), how_many(Trade(1, ()), 500), how_many_by(told, 10 ** 30, 7)]
[[(), (0,), (0, 1), (1,), (1, 2), (2,)], 7, 15, 1, 3]
"""
LISTING = """
>>> from placetrade.listing import how_many_with, least_with, next_least, numbered_least, place_of
>>> from placetrade.trades import Trade
>>> told = Trade(3, ((0, 1), (1, 2)))
>>> [how_many_with(told, (1, 1, 1)), how_many_with(told, (2, 0, 2)), least_with(told, (1, 2, 1)), numbered_least(told, 2, 3), place_of(told, (2, 1))]
[2, 6, (0, 1, 1, 2), (1, 1), 4]
>>> [numbered_least(told, 60, 0) == (0,) * 60, next_least(told, (0, 2)), next_least(told, (2, 2))]
[True, (1, 1), None]
"""
KNOWN = """
>>> from placetrade.known import trades_by
>>> [trade.pairs for trade in trades_by(3, (((0, 1, 2), (1, 0, 2), "alike"), ((1, 2), (2, 1), "unlike")))]
[((0, 1),), ((0, 1), (0, 2))]
"""
LINES = """
>>> from placetrade.lines import Line
>>> from placetrade.trades import Trade
>>> line = Line(Trade(3, ((0, 1), (1, 2))))
>>> [line.add(1), line.add(0), line.swap(0), line.row, line.add(2), line.least, line.undo(), line.undo(), line.row, len(line)]
[1, 2, (0, 1), (0, 1), 3, (0, 1, 2), True, True, (1, 0), 2]
>>> line.swap(1)
raises BadPlace()
"""
TEXTS = """
>>> from placetrade.texts import read_row, write_row
>>> from placetrade.trades import Trade
>>> told = Trade(3, ((0, 1), (1, 2)))
>>> [write_row(told, (1, 2, 0)), read_row(told, "(bc)(a)"), write_row(told, ())]
['(bc)(a)', (1, 2, 0), '']
>>> read_row(told, "(a)(b)")
raises InvalidText(place=4)
"""


def told_by(source, names):
    """What is shown of a row of an example: its value, or the error that it raises."""
    shown = io.StringIO()
    try:
        with contextlib.redirect_stdout(shown):
            exec(compile(source, "example", "single"), names)
    except TradeError as error:
        fields = ", ".join(f"{name}={worth!r}" for name, worth in vars(error).items())
        return f"raises {type(error).__name__}({fields})\n"
    return shown.getvalue()


class Examples(unittest.TestCase):
    def run_text(self, text):
        names = {}
        examples = doctest.DocTestParser().get_examples(text)
        self.assertTrue(examples)
        for example in examples:
            self.assertEqual(told_by(example.source, names), example.want, example.source)

    def test_rows(self):
        self.run_text(ROWS)

    def test_beginnings(self):
        self.run_text(BEGINNINGS)

    def test_ends(self):
        self.run_text(ENDS)

    def test_roots(self):
        self.run_text(ROOTS)

    def test_counts(self):
        self.run_text(COUNTS)

    def test_listing(self):
        self.run_text(LISTING)

    def test_known(self):
        self.run_text(KNOWN)

    def test_lines(self):
        self.run_text(LINES)

    def test_texts(self):
        self.run_text(TEXTS)

    def test_readme(self):
        readme = pathlib.Path(__file__).parent.parent / "README.md"
        text = readme.read_text().replace("```", "")
        test = doctest.DocTestParser().get_doctest(text, {}, "README.md", None, None)
        told = []
        result = doctest.DocTestRunner(verbose=False).run(test, out=told.append)
        self.assertGreater(result.attempted, 0)
        self.assertEqual(result.failed, 0, "".join(told))


if __name__ == "__main__":
    unittest.main()
