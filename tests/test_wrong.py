"""Wrong inputs of all functions, and that a call changes nothing."""

import copy
import unittest

from placetrade.errors import BadLength, BadModulus, BadNumber, BadRow, TooLong
from placetrade.rows import least
from placetrade.trades import Trade
from tests.calls import A_ROW, A_TRADE, CALLS, ROW, TOLD, with_argument, with_rows
from tests.values import any_values, raised

WRONG_ROWS = [
    [0, 1], [], (0, 3), (3,), (-1,), (0, 10 ** 30), (True,), (0, False), (0, None), (0, "1"), ((0,),),
    (0, [1]), (0, {}), (TOLD,), (0,) * 21, (0, 1, 2) * 7, "", "01", None, {}, {0: 1}, 0, True, TOLD,
]
WRONG_NUMBERS = [-1, -3, 10 ** 31, -10 ** 30, True, False, None, "", "0", (), (0,), [0], {}, {0: 1}, TOLD]
# For each function the numbers next to those that are right.
BEYOND = {"numbered": 3, "count_beginnings": 21, "power": 21, "how_many": 501, "how_many_by": 10 ** 30 + 1}


def show(value):
    """A value as a text that tells its kind and all that is in it."""
    if isinstance(value, (tuple, list)):
        return [type(value).__name__, [show(item) for item in value]]
    if isinstance(value, dict):
        return ["dict", [(show(key), show(item)) for key, item in value.items()]]
    if isinstance(value, Trade):
        return ["Trade", value.letters, show(value.pairs)]
    if isinstance(value, Exception):
        return [type(value).__name__, copy.copy(vars(value))]
    return [type(value).__name__, value]


class WrongInputs(unittest.TestCase):
    def hold(self, function, given, error):
        told = (function.__name__, [show(value) for value in given])
        self.assertIs(type(raised(function, *given)), error, told)

    def test_any_value_as_each_argument(self):
        for call in CALLS:
            for place, kind in enumerate(call.kinds):
                for value in any_values():
                    given = with_argument(call, place, value)
                    if not kind.is_right(value):
                        self.hold(call.function, given, kind.error)
                    elif kind is not A_TRADE:
                        self.assertIsNone(raised(call.function, *given), (call, show(value)))

    def test_wrong_rows(self):
        for call in CALLS:
            for place, kind in enumerate(call.kinds):
                for value in WRONG_ROWS if kind is A_ROW else []:
                    self.hold(call.function, with_argument(call, place, value), BadRow)

    def test_letters_that_this_trade_does_not_have(self):
        for letters in range(1, 6):
            self.assertIsNone(raised(least, Trade(letters, ()), (letters - 1,)))
            self.hold(least, (Trade(letters, ()), (letters,)), BadRow)
        self.hold(least, (Trade(6, ()), (6,)), BadRow)

    def test_rows_as_long_as_they_may_be(self):
        for call in CALLS:
            for length in range(call.longest + 1):
                given = with_rows(call, ((0, 1, 2, 0, 1) * 4)[:length])
                self.assertIsNone(raised(call.function, *given), call)
            for length in range(call.longest + 1, 21):
                self.hold(call.function, with_rows(call, ((0, 1, 2, 0, 1) * 4)[:length]), TooLong)

    def test_rows_of_21_letters_are_no_rows(self):
        for call in CALLS:
            if A_ROW in call.kinds:
                self.hold(call.function, with_rows(call, (0,) * 21), BadRow)

    def test_one_of_two_rows_too_long(self):
        for call in CALLS:
            for place, kind in enumerate(call.kinds):
                if kind is A_ROW and call.longest < 20:
                    given = with_argument(call, place, (0, 1, 2) * 4)
                    self.hold(call.function, given, TooLong)

    def test_wrong_numbers(self):
        for call in CALLS:
            for place, kind in enumerate(call.kinds):
                if kind.error in (BadNumber, BadLength, BadModulus):
                    for value in WRONG_NUMBERS:
                        self.hold(call.function, with_argument(call, place, value), kind.error)
                if kind.error in (BadNumber, BadLength):
                    beyond = BEYOND[call.function.__name__]
                    self.hold(call.function, with_argument(call, place, beyond), kind.error)
                    self.assertIsNone(raised(call.function, *with_argument(call, place, 0)))

    def test_the_first_wrong_argument_is_told(self):
        for call in CALLS:
            for place, kind in enumerate(call.kinds):
                for wrong in (None, [0], True, (9,), -1):
                    given = (*call.right[:place], *[wrong for _ in call.kinds[place:]])
                    self.hold(call.function, given, kind.error)
                self.hold(call.function, with_argument(call, place, "wrong"), kind.error)


class Unchanged(unittest.TestCase):
    def test_arguments_of_right_calls(self):
        for call in CALLS:
            ahead = show(call.right)
            self.assertEqual(show(call.function(*call.right)), show(call.answer), call)
            self.assertEqual(show(call.right), ahead, call)
            self.assertEqual(show(call.function(*call.right)), show(call.answer), call)
            self.assertEqual(show(call.right), ahead, call)

    def test_arguments_of_wrong_calls(self):
        for call in CALLS:
            for place in range(len(call.kinds)):
                for value in any_values():
                    given = with_argument(call, place, value)
                    ahead = show(given)
                    first = raised(call.function, *given)
                    self.assertEqual(show(given), ahead, call)
                    self.assertIs(type(raised(call.function, *given)), type(first), call)

    def test_arguments_of_a_trade(self):
        for value in any_values():
            for given in ((value, ()), (3, value), (3, ((0, 1), value))):
                ahead = show(given)
                first = raised(Trade, *given)
                self.assertEqual(show(given), ahead)
                self.assertEqual(show(raised(Trade, *given)), show(first))

    def test_a_wrong_call_between_changes_no_answer(self):
        for call in CALLS:
            for place in range(len(call.kinds)):
                self.assertIsNotNone(raised(call.function, *with_argument(call, place, None)))
            self.assertEqual(show(call.function(*call.right)), show(call.answer), call)

    def test_equal_trades_and_rows_give_equal_results(self):
        for call in CALLS:
            given = [copy.deepcopy(value) for value in call.right]
            self.assertEqual(show(call.function(*given)), show(call.answer), call)

    def test_returned_lists_are_new(self):
        for call in CALLS:
            if isinstance(call.answer, list):
                first = call.function(*call.right)
                self.assertIsNot(call.function(*call.right), first, call)
                first.append(None)
                first[0] = None
                self.assertEqual(show(call.function(*call.right)), show(call.answer), call)


class Kinds(unittest.TestCase):
    def test_each_way_to_answer(self):
        seen = {}
        for call in CALLS:
            seen[call.function.__name__] = show(call.answer)[0]
        self.assertEqual(seen, {
            "alike": "bool", "bar": "tuple", "changes": "tuple", "least": "tuple", "steps": "tuple",
            "many": "int", "number_of": "int", "numbered": "tuple", "rest": "tuple", "common": "tuple",
            "together": "tuple", "either_way": "bool", "turned": "list", "are_turned": "bool",
            "rest_ahead": "tuple", "common_end": "tuple", "beginnings": "list", "count_beginnings": "int",
            "crossed": "tuple", "parts": "list", "power": "tuple", "root": "tuple", "groups": "list",
            "how_many": "int", "how_many_by": "int",
        })

    def test_falsity(self):
        named = {call.function.__name__: call.function for call in CALLS}
        self.assertIs(named["alike"](TOLD, ROW, (0,)), False)
        self.assertIs(named["either_way"](TOLD, (0,), (2,)), False)
        self.assertIs(named["are_turned"](TOLD, (0,), (2,)), False)


if __name__ == "__main__":
    unittest.main()
