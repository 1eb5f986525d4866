"""Point 4: the least row, steps, and how many rows are alike, each by its number."""

import random
import unittest
from math import comb, factorial

from placetrade.errors import BadNumber
from placetrade.rows import least, many, number_of, numbered, steps
from placetrade.trades import Trade
from tests import plain
from tests.values import raised

NONE_MAY = Trade(6, ())
ALL_MAY = plain.all_trades(6)[-1]


class PlainSearch(unittest.TestCase):
    def test_all_short_rows(self):
        for letters, longest in ((1, 5), (2, 6), (3, 5)):
            for trade in plain.all_trades(letters):
                for length in range(longest + 1):
                    for row in plain.all_rows(letters, length):
                        self.hold(trade, row)

    def test_rows_of_more_letters(self):
        source = random.Random(4)
        for letters in (4, 5, 6):
            for trade in source.sample(plain.all_trades(letters), 40):
                self.hold(trade, tuple(source.choices(range(letters), k=source.randint(4, 7))))

    def hold(self, trade, row):
        told = (trade.letters, trade.pairs, row)
        rows = sorted(plain.distances(trade, row))
        self.assertEqual(least(trade, row), rows[0], told)
        self.assertEqual(steps(trade, row), plain.steps(trade, row), told)
        self.assertEqual(many(trade, row), len(rows), told)
        self.assertEqual(number_of(trade, row), rows.index(row), told)
        self.assertEqual([numbered(trade, row, index) for index in range(len(rows))], rows, told)
        for index in (-1, len(rows)):
            self.assertIs(type(raised(numbered, trade, row, index)), BadNumber, told)


class Edges(unittest.TestCase):
    def test_without_letters(self):
        for trade in (Trade(1, ()), NONE_MAY, ALL_MAY):
            self.assertEqual(least(trade, ()), ())
            self.assertEqual(steps(trade, ()), ())
            self.assertEqual(many(trade, ()), 1)
            self.assertEqual(number_of(trade, ()), 0)
            self.assertEqual(numbered(trade, (), 0), ())

    def test_none_may(self):
        row = (5, 0, 4, 1, 3, 2) * 3 + (5, 5)
        self.assertEqual(least(NONE_MAY, row), row)
        self.assertEqual(steps(NONE_MAY, row), tuple((letter,) for letter in row))
        self.assertEqual(many(NONE_MAY, row), 1)
        self.assertEqual(number_of(NONE_MAY, row), 0)
        self.assertEqual(numbered(NONE_MAY, row, 0), row)

    def test_all_may(self):
        row = (5, 4, 3, 2, 1, 0) * 3 + (1, 0)
        count = factorial(20) // (factorial(4) ** 2 * factorial(3) ** 4)
        self.assertEqual(least(ALL_MAY, row), tuple(sorted(row)))
        self.assertEqual(steps(ALL_MAY, row), ((0, 1, 2, 3, 4, 5),) * 3 + ((0, 1),))
        self.assertEqual(many(ALL_MAY, row), count)
        self.assertEqual(number_of(ALL_MAY, tuple(sorted(row))), 0)
        self.assertEqual(number_of(ALL_MAY, tuple(sorted(row, reverse=True))), count - 1)

    def test_the_same_letter_many_times(self):
        for trade in (Trade(1, ()), NONE_MAY, ALL_MAY):
            row = (0,) * 20
            self.assertEqual(least(trade, row), row)
            self.assertEqual(steps(trade, row), ((0,),) * 20)
            self.assertEqual(many(trade, row), 1)
            self.assertEqual(numbered(trade, row, number_of(trade, row)), row)

    def test_first_and_last_index(self):
        told = Trade(2, ((0, 1),))
        row = (1, 0) * 10
        self.assertEqual(many(told, row), comb(20, 10))
        self.assertEqual(numbered(told, row, 0), (0,) * 10 + (1,) * 10)
        self.assertEqual(numbered(told, row, comb(20, 10) - 1), (1,) * 10 + (0,) * 10)
        for index in (-1, comb(20, 10), 10 ** 30):
            self.assertIs(type(raised(numbered, told, row, index)), BadNumber)

    def test_numbers_of_long_rows(self):
        source = random.Random(6)
        for trade in (*plain.all_trades(4)[1::9], *source.sample(plain.all_trades(6), 5), ALL_MAY):
            row = tuple(source.choices(range(trade.letters), k=20))
            count = many(trade, row)
            for index in (0, count // 3, count // 2, count - 1):
                found = numbered(trade, row, index)
                self.assertEqual(number_of(trade, found), index)
                self.assertEqual(least(trade, found), numbered(trade, row, 0))
                self.assertEqual(steps(trade, found), steps(trade, row))
                self.assertEqual(many(trade, found), count)

    def test_letters_of_a_step_come_as_far_ahead_as_can_be(self):
        told = Trade(4, ((0, 1), (0, 3), (1, 2), (2, 3)))
        self.assertEqual(steps(told, (2, 0, 1, 3)), ((1, 2), (0, 3)))
        self.assertEqual(steps(told, (2, 0, 3, 1)), ((2, 3), (0, 1)))
        self.assertEqual(least(told, (2, 0, 3, 1)), (2, 0, 3, 1))


if __name__ == "__main__":
    unittest.main()
