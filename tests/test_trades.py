"""Point 2: trades."""

import unittest
from itertools import combinations

from placetrade.errors import BadLetters, BadPairs, BadTrade, TradeError
from placetrade.trades import Trade
from tests.values import any_values, is_integer, is_row, raised


class Trades(unittest.TestCase):
    def test_properties(self):
        told = Trade(3, ((0, 1), (1, 2)))
        self.assertEqual(told.letters, 3)
        self.assertEqual(told.pairs, ((0, 1), (1, 2)))

    def test_from_no_pairs_to_all(self):
        for letters in range(1, 7):
            every = tuple(combinations(range(letters), 2))
            for size in range(len(every) + 1):
                told = Trade(letters, every[:size])
                self.assertEqual((told.letters, told.pairs), (letters, every[:size]))

    def test_properties_are_not_assigned(self):
        told = Trade(2, ())
        for name, worth in (("letters", 3), ("pairs", ((0, 1),))):
            with self.assertRaises(AttributeError):
                setattr(told, name, worth)
        self.assertEqual((told.letters, told.pairs), (2, ()))

    def test_equal_if_both_are(self):
        self.assertTrue(Trade(3, ((0, 1),)) == Trade(3, ((0, 1),)))
        self.assertFalse(Trade(3, ((0, 1),)) != Trade(3, ((0, 1),)))
        self.assertFalse(Trade(3, ((0, 1),)) == Trade(4, ((0, 1),)))
        self.assertFalse(Trade(3, ((0, 1),)) == Trade(3, ((0, 2),)))
        self.assertTrue(Trade(3, ((0, 1),)) != Trade(3, ()))

    def test_equal_to_nothing_of_another_kind(self):
        told = Trade(2, ())
        for value in [*any_values(), (2, ()), [2, ()], BadTrade()]:
            if not isinstance(value, Trade):
                self.assertFalse(told == value, repr(value))
                self.assertFalse(value == told, repr(value))
                self.assertTrue(told != value, repr(value))


class WrongLetters(unittest.TestCase):
    def test_any_value(self):
        for value in any_values():
            error = raised(Trade, value, ())
            if is_integer(value) and 1 <= value <= 6:
                self.assertIsNone(error, repr(value))
            else:
                self.assertIs(type(error), BadLetters, repr(value))

    def test_too_few_and_too_many(self):
        for letters in (-1, 0, 7, 8):
            self.assertIs(type(raised(Trade, letters, ())), BadLetters, letters)

    def test_ahead_of_pairs(self):
        for pairs in (None, [], ((1, 0),)):
            self.assertIs(type(raised(Trade, True, pairs)), BadLetters)


class WrongPairs(unittest.TestCase):
    def index_told(self, letters, pairs):
        error = raised(Trade, letters, pairs)
        self.assertIs(type(error), BadPairs, repr(pairs))
        self.assertIsInstance(error, TradeError)
        return error.index

    def test_no_tuple(self):
        for value in any_values():
            if not isinstance(value, tuple):
                self.assertIsNone(self.index_told(3, value), repr(value))

    def test_any_value_as_a_pair(self):
        for value in any_values():
            self.assertEqual(self.index_told(4, ((0, 1), (0, 2), value)), 2, repr(value))
            if is_row(value, 4) and len(value) == 2 and value[0] < value[1]:
                self.assertIsNone(raised(Trade, 4, (value,)), repr(value))
            else:
                self.assertEqual(self.index_told(4, (value,)), 0, repr(value))

    def test_any_value_as_a_letter(self):
        for value in any_values():
            if not is_integer(value):
                self.assertEqual(self.index_told(4, ((0, 2), (0, value))), 1, repr(value))
                self.assertEqual(self.index_told(4, ((0, 2), (value, 3))), 1, repr(value))

    def test_booleans_are_no_letters(self):
        self.assertEqual(self.index_told(3, ((False, 1),)), 0)
        self.assertEqual(self.index_told(3, ((0, True),)), 0)

    def test_letters_that_the_trade_does_not_have(self):
        self.assertEqual(self.index_told(3, ((0, 1), (1, 3))), 1)
        self.assertEqual(self.index_told(1, ((0, 1),)), 0)
        self.assertEqual(self.index_told(6, ((0, 1), (5, 6))), 1)
        self.assertEqual(self.index_told(3, ((-1, 1),)), 0)

    def test_no_pair_of_a_lower_and_a_higher_one(self):
        self.assertEqual(self.index_told(3, ((1, 0),)), 0)
        self.assertEqual(self.index_told(3, ((0, 1), (1, 1))), 1)

    def test_no_two_things(self):
        for thing in ((), (0,), (0, 1, 2), [0, 1], "01"):
            self.assertEqual(self.index_told(3, ((0, 1), (0, 2), thing)), 2)

    def test_not_above_the_one_before(self):
        self.assertEqual(self.index_told(3, ((0, 1), (0, 1))), 1)
        self.assertEqual(self.index_told(3, ((0, 2), (0, 1))), 1)
        self.assertEqual(self.index_told(4, ((0, 1), (1, 2), (0, 3))), 2)
        self.assertEqual(self.index_told(4, ((0, 1), (1, 2), (1, 2), (0, 3))), 2)

    def test_the_first_wrong_thing_is_told(self):
        self.assertEqual(self.index_told(3, ((0, 1), None, (1, 0))), 1)
        self.assertEqual(self.index_told(3, ((0, 2), (0, 1), None)), 1)


if __name__ == "__main__":
    unittest.main()
