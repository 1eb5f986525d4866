"""Point 3: rows that are alike, what bars them, and the changes between them."""

import random
import unittest

from placetrade.rows import alike, bar, changes
from placetrade.trades import Trade
from tests import plain

NONE_MAY = Trade(6, ())
ALL_MAY = plain.all_trades(6)[-1]


def shortest(letters):
    """All rows so short that a plain search of all pairs of them ends."""
    return [row for length in range(5 - letters // 3) for row in plain.all_rows(letters, length)]


class PlainSearch(unittest.TestCase):
    def test_all_pairs_of_short_rows(self):
        for letters in (1, 2, 3):
            rows = shortest(letters)
            for trade in plain.all_trades(letters):
                for one in rows:
                    near = plain.distances(trade, one)
                    for other in rows:
                        self.hold(trade, one, other, near)

    def test_reordered_rows(self):
        source = random.Random(3)
        for trade in plain.all_trades(4):
            for _ in range(12):
                one = tuple(source.choices(range(4), k=source.randint(4, 7)))
                other = tuple(source.sample(one, len(one)))
                near = plain.distances(trade, one)
                for row in (other, source.choice(list(near))):
                    self.hold(trade, one, row, near)

    def hold(self, trade, one, other, near):
        told = (trade.letters, trade.pairs, one, other)
        self.assertIs(alike(trade, one, other), other in near, told)
        self.assertEqual(bar(trade, one, other), plain.bar(trade, one, other), told)
        places = changes(trade, one, other)
        if other in near:
            self.assertIsInstance(places, tuple, told)
            self.assertEqual(len(places), near[other], told)
            self.assertEqual(plain.follow(trade, one, places), other, told)
        else:
            self.assertIsNone(places, told)


class Bars(unittest.TestCase):
    def test_the_least_letter(self):
        told = Trade(4, ())
        self.assertEqual(bar(told, (3, 2, 1), (3, 2, 2)), ("letter", 1))
        self.assertEqual(bar(told, (3, 2, 2), (3, 2, 1)), ("letter", 1))
        self.assertEqual(bar(told, (0, 3), (0, 3, 3)), ("letter", 3))
        self.assertEqual(bar(told, (), (2, 1)), ("letter", 1))

    def test_a_letter_ahead_of_a_pair(self):
        self.assertEqual(bar(Trade(3, ()), (1, 0, 2), (0, 1)), ("letter", 2))

    def test_the_least_pair_that_may_not(self):
        told = Trade(4, ((0, 1),))
        self.assertEqual(bar(told, (3, 2, 1, 0), (0, 1, 2, 3)), ("pair", 0, 2, 0))
        self.assertEqual(bar(told, (0, 3, 2, 1), (0, 1, 2, 3)), ("pair", 1, 2, 0))
        self.assertEqual(bar(told, (1, 0, 3, 2), (0, 1, 2, 3)), ("pair", 2, 3, 0))

    def test_the_place_counts_the_two_letters_alone(self):
        told = Trade(3, ())
        self.assertEqual(bar(told, (0, 1, 0, 0, 2, 1), (0, 1, 0, 0, 1, 2)), ("pair", 1, 2, 1))
        self.assertEqual(bar(told, (2, 0, 2, 0, 1, 0), (2, 0, 2, 0, 0, 1)), ("pair", 0, 1, 2))

    def test_of_letters_that_may_change_with_all(self):
        self.assertIs(alike(ALL_MAY, (0, 1), (0, 1, 1)), False)
        self.assertEqual(bar(ALL_MAY, (0, 1), (0, 1, 1)), ("letter", 1))
        self.assertIsNone(changes(ALL_MAY, (0, 1), (0, 1, 1)))


class Edges(unittest.TestCase):
    def test_without_letters(self):
        for trade in (Trade(1, ()), NONE_MAY, ALL_MAY):
            self.assertIs(alike(trade, (), ()), True)
            self.assertIsNone(bar(trade, (), ()))
            self.assertEqual(changes(trade, (), ()), ())

    def test_the_same_row(self):
        row = (0, 5, 1, 4, 2, 3) * 3
        for trade in (NONE_MAY, ALL_MAY):
            self.assertIs(alike(trade, row, row), True)
            self.assertEqual(changes(trade, row, row), ())

    def test_the_same_letter_many_times(self):
        for trade in (Trade(1, ()), NONE_MAY, ALL_MAY):
            self.assertEqual(changes(trade, (0,) * 20, (0,) * 20), ())
            self.assertEqual(bar(trade, (0,) * 20, (0,) * 19), ("letter", 0))

    def test_none_may(self):
        one = (0, 1, 2, 3, 4, 5) * 3 + (0, 1)
        other = one[:18] + (1, 0)
        self.assertEqual(bar(NONE_MAY, one, other), ("pair", 0, 1, 6))
        self.assertIsNone(changes(NONE_MAY, one, other))

    def test_all_may(self):
        one = (5, 4, 3, 2, 1, 0) * 3 + (1, 0)
        other = tuple(sorted(one))
        self.assertIs(alike(ALL_MAY, one, other), True)
        self.many_changes(ALL_MAY, one, other)

    def test_as_many_changes_as_two_letters_need(self):
        told = Trade(2, ((0, 1),))
        one, other = (0,) * 10 + (1,) * 10, (1,) * 10 + (0,) * 10
        self.assertEqual(len(changes(told, one, other)), 100)
        self.many_changes(told, one, other)

    def test_long_rows(self):
        source = random.Random(5)
        for trade in plain.all_trades(4)[::5]:
            for _ in range(10):
                one = tuple(source.choices(range(4), k=20))
                other = one
                for _ in range(300):
                    place = source.randrange(19)
                    if plain.may(trade, other, place):
                        other = plain.change(other, place)
                self.many_changes(trade, one, other)

    def many_changes(self, trade, one, other):
        """Hold changes against the number of letters that have to pass."""
        nth = [(letter, one[:place].count(letter)) for place, letter in enumerate(one)]
        goal = {(letter, other[:place].count(letter)): place for place, letter in enumerate(other)}
        goals = [goal[letter] for letter in nth]
        passed = sum(goals[low] > goals[high] for high in range(len(goals)) for low in range(high))
        places = changes(trade, one, other)
        self.assertEqual(len(places), passed)
        self.assertEqual(plain.follow(trade, one, places), other)


if __name__ == "__main__":
    unittest.main()
