"""The names of the interface stand where the document lists them."""

import inspect
import pathlib
import unittest

import placetrade
from placetrade import errors, rows, trades

ARGUMENTS = {
    "alike": ["trade", "one", "other"],
    "bar": ["trade", "one", "other"],
    "changes": ["trade", "one", "other"],
    "least": ["trade", "row"],
    "steps": ["trade", "row"],
    "many": ["trade", "row"],
    "number_of": ["trade", "row"],
    "numbered": ["trade", "row", "index"],
}

FIELDS = {
    "BadLetters": [], "BadPairs": ["index"], "BadTrade": [], "BadRow": [], "BadNumber": [],
    "TooLong": [], "BadLength": [], "BadModulus": [], "BadFacts": ["index"], "BadLetter": [],
    "Full": [], "BadPlace": [], "BadCounts": [], "InvalidText": ["place"],
}


class Interface(unittest.TestCase):
    def test_functions_of_rows(self):
        for name, arguments in ARGUMENTS.items():
            function = getattr(rows, name)
            self.assertEqual(function.__module__, "placetrade.rows", name)
            self.assertEqual(list(inspect.signature(function).parameters), arguments, name)

    def test_functions_by_keyword(self):
        told = trades.Trade(pairs=((0, 1),), letters=2)
        self.assertTrue(rows.alike(other=(0, 1), one=(1, 0), trade=told))
        self.assertEqual(rows.numbered(index=1, row=(0, 1), trade=told), (1, 0))

    def test_trade(self):
        self.assertEqual(trades.Trade.__module__, "placetrade.trades")
        self.assertEqual(list(inspect.signature(trades.Trade).parameters), ["letters", "pairs"])
        for name in ("letters", "pairs"):
            self.assertIsInstance(vars(trades.Trade)[name], property)
        self.assertIn("__eq__", vars(trades.Trade))

    def test_base_of_errors(self):
        self.assertEqual(errors.TradeError.__bases__, (ValueError,))
        self.assertIsInstance(errors.TradeError(), ValueError)

    def test_errors(self):
        for name, fields in FIELDS.items():
            error = getattr(errors, name)
            self.assertEqual(error.__module__, "placetrade.errors", name)
            self.assertEqual(error.__bases__, (errors.TradeError,), name)
            for worth in (0, 5, None):
                made = error(*[worth for _ in fields])
                for field in fields:
                    self.assertEqual(getattr(made, field), worth, name)
                made = error(**{field: worth for field in fields})
                for field in fields:
                    self.assertEqual(getattr(made, field), worth, name)

    def test_errors_take_nothing_else(self):
        for name, fields in FIELDS.items():
            with self.assertRaises(TypeError, msg=name):
                getattr(errors, name)(*[0 for _ in fields], 0)

    def test_no_other_errors(self):
        found = [name for name in vars(errors) if not name.startswith("_")]
        self.assertEqual(sorted(found), sorted([*FIELDS, "TradeError"]))

    def test_files_are_plain(self):
        for path in pathlib.Path(placetrade.__file__).parent.glob("*.py"):
            text = path.read_text(encoding="utf-8")
            self.assertLess(len(text.splitlines()), 400, path)
            for line in text.splitlines():
                self.assertLessEqual(len(line), 120, path)
                self.assertTrue(all(" " <= sign <= "~" for sign in line), path)


if __name__ == "__main__":
    unittest.main()
