"""The names of the interface stand where the document lists them."""

import inspect
import pathlib
import sys
import unittest

import placetrade
from placetrade import beginnings, counts, ends, errors, known, lines, listing, roots, rows, texts, trades
from tests.calls import CALLS

ARGUMENTS = {
    rows: {
        "alike": ["trade", "one", "other"],
        "bar": ["trade", "one", "other"],
        "changes": ["trade", "one", "other"],
        "least": ["trade", "row"],
        "steps": ["trade", "row"],
        "many": ["trade", "row"],
        "number_of": ["trade", "row"],
        "numbered": ["trade", "row", "index"],
    },
    beginnings: {
        "rest": ["trade", "one", "row"],
        "common": ["trade", "one", "other"],
        "together": ["trade", "one", "other"],
        "either_way": ["trade", "one", "other"],
        "turned": ["trade", "row"],
        "are_turned": ["trade", "one", "other"],
    },
    ends: {
        "rest_ahead": ["trade", "one", "row"],
        "common_end": ["trade", "one", "other"],
        "beginnings": ["trade", "row"],
        "count_beginnings": ["trade", "row", "length"],
        "crossed": ["trade", "first", "second", "third", "fourth"],
    },
    roots: {
        "parts": ["trade", "row"],
        "power": ["trade", "row", "many"],
        "root": ["trade", "row"],
    },
    listing: {
        "how_many_with": ["trade", "counts"],
        "least_with": ["trade", "counts"],
        "numbered_least": ["trade", "length", "index"],
        "place_of": ["trade", "row"],
        "next_least": ["trade", "row"],
    },
    known: {
        "trades_by": ["letters", "facts"],
    },
    texts: {
        "write_row": ["trade", "row"],
        "read_row": ["trade", "text"],
    },
    counts: {
        "groups": ["trade"],
        "how_many": ["trade", "length"],
        "how_many_by": ["trade", "length", "modulus"],
    },
}

LINE = {
    "add": ["self", "letter"],
    "swap": ["self", "place"],
    "undo": ["self"],
    "copy": ["self"],
    "__len__": ["self"],
}

FIELDS = {
    "BadLetters": [], "BadPairs": ["index"], "BadTrade": [], "BadRow": [], "BadNumber": [],
    "TooLong": [], "BadLength": [], "BadModulus": [], "BadFacts": ["index"], "BadLetter": [],
    "Full": [], "BadPlace": [], "BadCounts": [], "InvalidText": ["place"],
}


class Interface(unittest.TestCase):
    def test_functions(self):
        for module, functions in ARGUMENTS.items():
            for name, arguments in functions.items():
                function = getattr(module, name)
                self.assertTrue(inspect.isfunction(function), name)
                self.assertEqual(function.__module__, module.__name__, name)
                self.assertEqual(list(inspect.signature(function).parameters), arguments, name)

    def test_each_function_has_a_call(self):
        called = {(call.function.__module__, call.function.__name__): call for call in CALLS}
        listed = {(module.__name__, name) for module, functions in ARGUMENTS.items() for name in functions}
        self.assertEqual(set(called), listed)

    def test_functions_by_keyword(self):
        told = trades.Trade(pairs=((0, 1),), letters=2)
        self.assertTrue(rows.alike(other=(0, 1), one=(1, 0), trade=told))
        for call in CALLS:
            arguments = ARGUMENTS[sys.modules[call.function.__module__]][call.function.__name__]
            told = dict(reversed(list(zip(arguments, call.right, strict=True))))
            self.assertEqual(call.function(**told), call.answer, call)

    def test_trade(self):
        self.assertEqual(trades.Trade.__module__, "placetrade.trades")
        self.assertEqual(list(inspect.signature(trades.Trade).parameters), ["letters", "pairs"])
        for name in ("letters", "pairs"):
            self.assertIsInstance(vars(trades.Trade)[name], property)
        self.assertIn("__eq__", vars(trades.Trade))

    def test_line(self):
        self.assertEqual(lines.Line.__module__, "placetrade.lines")
        self.assertEqual(list(inspect.signature(lines.Line).parameters), ["trade"])
        for name in ("row", "least"):
            self.assertIsInstance(vars(lines.Line)[name], property)
        for name, arguments in LINE.items():
            self.assertEqual(list(inspect.signature(vars(lines.Line)[name]).parameters), arguments, name)

    def test_line_by_keyword(self):
        line = lines.Line(trade=trades.Trade(2, ((0, 1),)))
        self.assertEqual([line.add(letter=1), line.add(letter=0), line.swap(place=0)], [1, 2, (0, 1)])
        self.assertEqual((line.row, line.least, len(line)), ((0, 1), (0, 1), 2))

    def test_base_of_errors(self):
        self.assertEqual(errors.TradeError.__bases__, (ValueError,))
        self.assertIsInstance(errors.TradeError(), ValueError)

    def test_errors(self):
        for name, fields in FIELDS.items():
            error = getattr(errors, name)
            self.assertEqual(error.__module__, "placetrade.errors", name)
            self.assertEqual(error.__bases__, (errors.TradeError,), name)
            for worth in (0, 5, None):
                made = error(*[worth for _ in fields])
                for field in fields:
                    self.assertEqual(getattr(made, field), worth, name)
                made = error(**{field: worth for field in fields})
                for field in fields:
                    self.assertEqual(getattr(made, field), worth, name)

    def test_errors_take_nothing_else(self):
        for name, fields in FIELDS.items():
            with self.assertRaises(TypeError, msg=name):
                getattr(errors, name)(*[0 for _ in fields], 0)

    def test_no_other_errors(self):
        found = [name for name in vars(errors) if not name.startswith("_")]
        self.assertEqual(sorted(found), sorted([*FIELDS, "TradeError"]))

    def test_files_are_plain(self):
        for path in pathlib.Path(placetrade.__file__).parent.glob("*.py"):
            text = path.read_text(encoding="utf-8")
            self.assertLess(len(text.splitlines()), 400, path)
            for line in text.splitlines():
                self.assertLessEqual(len(line), 120, path)
                self.assertTrue(all(" " <= sign <= "~" for sign in line), path)


if __name__ == "__main__":
    unittest.main()
