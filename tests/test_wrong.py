"""Wrong inputs of the functions of rows, and that a call changes nothing."""

import copy
import unittest

from placetrade.errors import BadNumber, BadRow, BadTrade
from placetrade.rows import alike, bar, changes, least, many, number_of, numbered, steps
from placetrade.trades import Trade
from tests.values import any_values, is_integer, is_row, raised

TOLD = Trade(3, ((0, 1), (1, 2)))
ROW = (1, 0, 2)
# Each function with arguments that are right, and what a wrong one raises.
CALLS = [
    (alike, (TOLD, ROW, (0, 2, 1)), (BadTrade, BadRow, BadRow)),
    (bar, (TOLD, ROW, (2, 0, 1)), (BadTrade, BadRow, BadRow)),
    (changes, (TOLD, ROW, (0, 2, 1)), (BadTrade, BadRow, BadRow)),
    (least, (TOLD, ROW), (BadTrade, BadRow)),
    (steps, (TOLD, ROW), (BadTrade, BadRow)),
    (many, (TOLD, ROW), (BadTrade, BadRow)),
    (number_of, (TOLD, ROW), (BadTrade, BadRow)),
    (numbered, (TOLD, ROW, 0), (BadTrade, BadRow, BadNumber)),
]
WRONG_ROWS = [
    [0, 1], [], (0, 3), (3,), (-1,), (0, 10 ** 30), (True,), (0, False), (0, None), (0, "1"), ((0,),),
    (0, [1]), (0, {}), (TOLD,), (0,) * 21, (0, 1, 2) * 7, "", "01", None, {}, {0: 1}, 0, True, TOLD,
]


def is_right(value, error):
    """Tell whether a value may stand where else this error is raised."""
    if error is BadTrade:
        return isinstance(value, Trade)
    if error is BadRow:
        return is_row(value, 3)
    return is_integer(value) and 0 <= value <= 2


def show(value):
    """A value as a text that tells its kind and all that is in it."""
    if isinstance(value, (tuple, list)):
        return [type(value).__name__, [show(item) for item in value]]
    if isinstance(value, dict):
        return ["dict", [(show(key), show(item)) for key, item in value.items()]]
    if isinstance(value, Trade):
        return ["Trade", value.letters, show(value.pairs)]
    if isinstance(value, Exception):
        return [type(value).__name__, copy.copy(vars(value))]
    return [type(value).__name__, value]


class WrongInputs(unittest.TestCase):
    def hold(self, function, given, error):
        told = (function.__name__, [show(value) for value in given])
        self.assertIs(type(raised(function, *given)), error, told)

    def test_any_value_as_each_argument(self):
        for function, right, told in CALLS:
            for place, error in enumerate(told):
                for value in any_values():
                    given = (*right[:place], value, *right[place + 1:])
                    if not is_right(value, error):
                        self.hold(function, given, error)
                    elif error is not BadTrade:
                        self.assertIsNone(raised(function, *given), show(value))

    def test_wrong_rows(self):
        for function, right, told in CALLS:
            for place, error in enumerate(told):
                for value in WRONG_ROWS if error is BadRow else []:
                    self.hold(function, (*right[:place], value, *right[place + 1:]), BadRow)

    def test_letters_that_this_trade_does_not_have(self):
        for letters in range(1, 6):
            self.assertIsNone(raised(least, Trade(letters, ()), (letters - 1,)))
            self.hold(least, (Trade(letters, ()), (letters,)), BadRow)
        self.hold(least, (Trade(6, ()), (6,)), BadRow)

    def test_rows_of_20_letters_are_right(self):
        row = (0, 1, 2, 0, 1) * 4
        for function, right, told in CALLS:
            given = [row if error is BadRow else value for value, error in zip(right, told)]
            self.assertIsNone(raised(function, *given), function.__name__)

    def test_wrong_numbers(self):
        for index in (3, 4, -1, -3, 10 ** 40, True, False, None, "0", (0,), [0], {}, TOLD):
            self.hold(numbered, (TOLD, ROW, index), BadNumber)
        self.hold(numbered, (TOLD, (), 1), BadNumber)
        self.hold(numbered, (TOLD, (), False), BadNumber)

    def test_the_first_wrong_argument_is_told(self):
        for function, right, told in CALLS:
            for place, error in enumerate(told):
                for wrong in (None, [0], True, (9,), -1):
                    given = (*right[:place], *[wrong for _ in told[place:]])
                    self.hold(function, given, error)
                given = (*right[:place], "wrong", *right[place + 1:])
                self.hold(function, given, error)


class Unchanged(unittest.TestCase):
    def test_arguments_of_right_calls(self):
        for function, right, _ in CALLS:
            ahead = show(right)
            first = function(*right)
            self.assertEqual(show(right), ahead, function.__name__)
            self.assertEqual(show(function(*right)), show(first), function.__name__)
            self.assertEqual(show(right), ahead, function.__name__)

    def test_arguments_of_wrong_calls(self):
        for function, right, told in CALLS:
            for place in range(len(told)):
                for value in any_values():
                    given = (*right[:place], value, *right[place + 1:])
                    ahead = show(given)
                    first = raised(function, *given)
                    self.assertEqual(show(given), ahead, function.__name__)
                    self.assertIs(type(raised(function, *given)), type(first), function.__name__)

    def test_arguments_of_a_trade(self):
        for value in any_values():
            for given in ((value, ()), (3, value), (3, ((0, 1), value))):
                ahead = show(given)
                first = raised(Trade, *given)
                self.assertEqual(show(given), ahead)
                self.assertEqual(show(raised(Trade, *given)), show(first))

    def test_a_wrong_call_between_changes_no_answer(self):
        for function, right, told in CALLS:
            first = function(*right)
            for place in range(len(told)):
                self.assertIsNotNone(raised(function, *right[:place], None, *right[place + 1:]))
            self.assertEqual(function(*right), first, function.__name__)


class Kinds(unittest.TestCase):
    def test_kinds_of_answers(self):
        self.assertIs(alike(TOLD, ROW, ROW), True)
        self.assertIs(alike(TOLD, ROW, (0,)), False)
        self.assertEqual(show(bar(TOLD, (2, 0), (0, 2))), show(("pair", 0, 2, 0)))
        self.assertEqual(show(changes(TOLD, ROW, (0, 2, 1))), show((0, 1)))
        self.assertEqual(show(least(TOLD, ROW)), show((0, 1, 2)))
        self.assertEqual(show(steps(TOLD, ROW)), show(((0, 1), (2,))))
        self.assertEqual(show(many(TOLD, ROW)), show(3))
        self.assertEqual(show(number_of(TOLD, (0, 1, 2))), show(0))
        self.assertEqual(show(numbered(TOLD, ROW, 2)), show((1, 0, 2)))


if __name__ == "__main__":
    unittest.main()
