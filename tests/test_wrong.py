"""Wrong inputs of all functions, and that a call changes nothing."""

import copy
import unittest

from placetrade.errors import BadCounts, BadFacts, BadLength, BadLetters, BadModulus, BadNumber, BadRow
from placetrade.errors import InvalidText, TooLong
from placetrade.lines import Line
from placetrade.rows import least
from placetrade.trades import Trade
from tests.calls import A_ROW, A_TRADE, CALLS, ROW, TOLD, with_argument, with_rows
from tests.values import any_values, history, raised

WRONG_ROWS = [
    [0, 1], [], (0, 3), (3,), (-1,), (0, 10 ** 30), (True,), (0, False), (0, None), (0, "1"), ((0,),),
    (0, [1]), (0, {}), (TOLD,), (0,) * 21, (0, 1, 2) * 7, "", "01", None, {}, {0: 1}, 0, True, TOLD,
]
WRONG_NUMBERS = [-1, -3, 10 ** 31, -10 ** 30, True, False, None, "", "0", (), (0,), [0], {}, {0: 1}, TOLD]
WRONG_COUNTS = [
    (), (1, 1), (1, 1, 1, 1), [1, 1, 1], (1, 1, 13), (13, 0, 0), (-1, 1, 1), (12, 12, 10 ** 30), (True, 1, 1),
    (1, 1, False), (1, None, 1), (1, 1, "1"), (1, (1,), 1), (1, [1], 1), "111", {0: 1, 1: 1, 2: 1}, None, 3, TOLD,
]
# Wrong facts, each with the index that is told.
WRONG_FACTS = [
    ([], None), (None, None), ("alike", None), ({}, None), ((((), (), "alike"),) * 21, None), ((None,), 0),
    (((), (), "alike"), 0), ((((), (), "alike"), ((), (), "like")), 1),
]
# Wrong texts, each with the place that is told.
WRONG_TEXTS = [("a", 0), ("()", 1), ("(d)", 1), ("(ba)", 2), ("(ac)", 2), ("(a)(b)", 4), ("(a", 2)]
WRONG_FOR = {BadRow: WRONG_ROWS, BadCounts: WRONG_COUNTS}
WRONG_WITH_FIELD = {BadFacts: ("index", WRONG_FACTS), InvalidText: ("place", WRONG_TEXTS)}
WRONG_ALL_ALONG = [None, [0], True, (9,), -1, "wrong"]


def show(value):
    """A value as a text that tells its kind and all that is in it."""
    if isinstance(value, (tuple, list)):
        return [type(value).__name__, [show(item) for item in value]]
    if isinstance(value, dict):
        return ["dict", [(show(key), show(item)) for key, item in value.items()]]
    if isinstance(value, Trade):
        return ["Trade", value.letters, show(value.pairs)]
    if isinstance(value, Line):
        return ["Line", show(history(value))]
    if isinstance(value, Exception):
        return [type(value).__name__, copy.copy(vars(value))]
    return [type(value).__name__, value]


class WrongInputs(unittest.TestCase):
    def hold(self, function, given, error):
        told = (function.__name__, [show(value) for value in given])
        self.assertIs(type(raised(function, *given)), error, told)

    def test_any_value_as_each_argument(self):
        for call in CALLS:
            for place, kind in enumerate(call.kinds):
                for value in kind.values():
                    given = with_argument(call, place, value)
                    if not kind.is_right(value):
                        self.hold(call.function, given, kind.error)
                    elif kind is not A_TRADE:
                        self.assertIsNone(raised(call.function, *given), (call, show(value)))

    def test_wrong_rows_and_counts(self):
        for call in CALLS:
            for place, kind in enumerate(call.kinds):
                for value in WRONG_FOR.get(kind.error, []):
                    self.hold(call.function, with_argument(call, place, value), kind.error)

    def test_the_fields_of_errors(self):
        for call in CALLS:
            for place, kind in enumerate(call.kinds):
                field, wrong = WRONG_WITH_FIELD.get(kind.error, (None, []))
                for value, told in wrong:
                    error = raised(call.function, *with_argument(call, place, value))
                    self.assertIs(type(error), kind.error, show(value))
                    self.assertEqual(getattr(error, field), told, show(value))

    def test_letters_that_this_trade_does_not_have(self):
        for letters in range(1, 6):
            self.assertIsNone(raised(least, Trade(letters, ()), (letters - 1,)))
            self.hold(least, (Trade(letters, ()), (letters,)), BadRow)
        self.hold(least, (Trade(6, ()), (6,)), BadRow)

    def test_rows_as_long_as_they_may_be(self):
        for call in CALLS:
            for length in range(call.longest + 1):
                given = with_rows(call, ((0, 1, 2, 0, 1) * 4)[:length])
                self.assertIsNone(raised(call.function, *given), call)
            for length in range(call.longest + 1, 21):
                self.hold(call.function, with_rows(call, ((0, 1, 2, 0, 1) * 4)[:length]), TooLong)

    def test_rows_of_21_letters_are_no_rows(self):
        for call in CALLS:
            if A_ROW in call.kinds:
                self.hold(call.function, with_rows(call, (0,) * 21), BadRow)

    def test_one_of_two_rows_too_long(self):
        for call in CALLS:
            for place, kind in enumerate(call.kinds):
                if kind is A_ROW and call.longest < 20:
                    given = with_argument(call, place, (0, 1, 2) * 4)
                    self.hold(call.function, given, TooLong)

    def test_wrong_numbers(self):
        for call in CALLS:
            for place, kind in enumerate(call.kinds):
                if kind.error in (BadNumber, BadLength, BadModulus, BadLetters):
                    for value in [*WRONG_NUMBERS, kind.beyond]:
                        self.hold(call.function, with_argument(call, place, value), kind.error)
                if kind.error in (BadNumber, BadLength):
                    self.assertIsNone(raised(call.function, *with_argument(call, place, 0)))

    def test_the_first_wrong_argument_is_told(self):
        for call in CALLS:
            for place, kind in enumerate(call.kinds):
                for wrong in WRONG_ALL_ALONG if kind.values is any_values else ["wrong"]:
                    given = (*call.right[:place], *[wrong for _ in call.kinds[place:]])
                    self.hold(call.function, given, kind.error)
                self.hold(call.function, with_argument(call, place, "wrong"), kind.error)


class Unchanged(unittest.TestCase):
    def test_arguments_of_right_calls(self):
        for call in CALLS:
            ahead = show(call.right)
            self.assertEqual(show(call.function(*call.right)), show(call.answer), call)
            self.assertEqual(show(call.right), ahead, call)
            self.assertEqual(show(call.function(*call.right)), show(call.answer), call)
            self.assertEqual(show(call.right), ahead, call)

    def test_arguments_of_wrong_calls(self):
        for call in CALLS:
            for place, kind in enumerate(call.kinds):
                for value in kind.values():
                    given = with_argument(call, place, value)
                    ahead = show(given)
                    first = raised(call.function, *given)
                    self.assertEqual(show(given), ahead, call)
                    self.assertIs(type(raised(call.function, *given)), type(first), call)

    def test_arguments_of_a_trade(self):
        for value in any_values():
            for given in ((value, ()), (3, value), (3, ((0, 1), value))):
                ahead = show(given)
                first = raised(Trade, *given)
                self.assertEqual(show(given), ahead)
                self.assertEqual(show(raised(Trade, *given)), show(first))

    def test_a_wrong_call_between_changes_no_answer(self):
        for call in CALLS:
            for place in range(len(call.kinds)):
                self.assertIsNotNone(raised(call.function, *with_argument(call, place, "wrong")))
            self.assertEqual(show(call.function(*call.right)), show(call.answer), call)

    def test_equal_trades_and_rows_give_equal_results(self):
        for call in CALLS:
            given = [copy.deepcopy(value) for value in call.right]
            self.assertEqual(show(call.function(*given)), show(call.answer), call)

    def test_returned_lists_are_new(self):
        for call in CALLS:
            if isinstance(call.answer, list):
                first = call.function(*call.right)
                self.assertIsNot(call.function(*call.right), first, call)
                first.append(None)
                first[0] = None
                self.assertEqual(show(call.function(*call.right)), show(call.answer), call)


class Kinds(unittest.TestCase):
    def test_each_way_to_answer(self):
        seen = {}
        for call in CALLS:
            seen[call.function.__name__] = show(call.answer)[0]
        self.assertEqual(seen, {
            "alike": "bool", "bar": "tuple", "changes": "tuple", "least": "tuple", "steps": "tuple",
            "many": "int", "number_of": "int", "numbered": "tuple", "rest": "tuple", "common": "tuple",
            "together": "tuple", "either_way": "bool", "turned": "list", "are_turned": "bool",
            "rest_ahead": "tuple", "common_end": "tuple", "beginnings": "list", "count_beginnings": "int",
            "crossed": "tuple", "parts": "list", "power": "tuple", "root": "tuple", "groups": "list",
            "how_many": "int", "how_many_by": "int", "how_many_with": "int", "least_with": "tuple",
            "numbered_least": "tuple", "place_of": "int", "next_least": "tuple", "trades_by": "list",
            "write_row": "str", "read_row": "tuple",
        })

    def test_falsity(self):
        named = {call.function.__name__: call.function for call in CALLS}
        self.assertIs(named["alike"](TOLD, ROW, (0,)), False)
        self.assertIs(named["either_way"](TOLD, (0,), (2,)), False)
        self.assertIs(named["are_turned"](TOLD, (0,), (2,)), False)


if __name__ == "__main__":
    unittest.main()
