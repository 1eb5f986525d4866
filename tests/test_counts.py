"""Point 7: groups of letters, and how many unlike rows of a length there are."""

import random
import unittest
from itertools import combinations
from math import comb

from placetrade.counts import groups, how_many, how_many_by
from placetrade.errors import BadLength, BadModulus, BadTrade
from placetrade.trades import Trade
from tests import plain
from tests.values import any_values, is_integer, raised

TOLD = Trade(3, ((0, 1), (1, 2)))
NONE_MAY = Trade(6, ())
ALL_MAY = plain.all_trades(6)[-1]
MODULI = (1, 2, 7, 10, 1024, 999999937, 10 ** 9)


def least_rows(trade, length):
    """How many rows of each length have no less row alike, counted sign by sign.

    A row is the least one just if no letter of it may pass all letters back to
    a greater one. Kept are, for each way to go on, the letters that could.
    """
    found, ahead = [1], {frozenset(): 1}
    for _ in range(length):
        then = {}
        for barred, worth in ahead.items():
            for letter in set(range(trade.letters)) - barred:
                below = {other for other in barred | set(range(letter)) if plain.may_all(trade, (other,), (letter,))}
                then[frozenset(below)] = then.get(frozenset(below), 0) + worth
        ahead = then
        found.append(sum(ahead.values()))
    return found


def by_squares(trade, length, modulus):
    """The remainder of the number of rows, by powers of a table of the recurrence."""
    size = trade.letters
    told = [sum(len(group) == many for group in groups(trade)) for many in range(size + 1)]
    step = [[(-1) ** many * told[many + 1] for many in range(size)]]
    step += [[int(high == low) for high in range(size)] for low in range(size - 1)]
    state = [1] + [0] * (size - 1)
    while length:
        if length % 2:
            state = [sum(a * b for a, b in zip(row, state)) % modulus for row in step]
        step = [[sum(a * b for a, b in zip(row, col)) % modulus for col in zip(*step)] for row in step]
        length //= 2
    return state[0] % modulus


class Groups(unittest.TestCase):
    def test_all_trades(self):
        for letters in (1, 2, 3, 4):
            for trade in plain.all_trades(letters):
                self.hold(trade)
        for trade in [*plain.all_trades(5)[::17], *plain.all_trades(6)[::517], ALL_MAY]:
            self.hold(trade)

    def hold(self, trade):
        found = []
        for size in range(trade.letters + 1):
            for some in combinations(range(trade.letters), size):
                if all(pair in trade.pairs for pair in combinations(some, 2)):
                    found.append(some)
        self.assertEqual(groups(trade), sorted(found), trade.pairs)

    def test_edges(self):
        self.assertEqual(groups(Trade(1, ())), [(), (0,)])
        self.assertEqual(groups(NONE_MAY), [(), (0,), (1,), (2,), (3,), (4,), (5,)])
        found = groups(ALL_MAY)
        self.assertEqual(len(found), 64)
        self.assertEqual(found[:8], [
            (), (0,), (0, 1), (0, 1, 2), (0, 1, 2, 3), (0, 1, 2, 3, 4), (0, 1, 2, 3, 4, 5), (0, 1, 2, 3, 5),
        ])
        self.assertEqual(found[-3:], [(4,), (4, 5), (5,)])


class HowMany(unittest.TestCase):
    def test_all_unlike_rows_of_a_length(self):
        for letters, longest in ((1, 6), (2, 7), (3, 5)):
            for trade in plain.all_trades(letters):
                for length in range(longest + 1):
                    self.hold(trade, length)
        for trade in plain.all_trades(4)[::3]:
            self.hold(trade, 4)
        for trade in [*plain.all_trades(5)[::70], *plain.all_trades(6)[::2500], ALL_MAY]:
            self.hold(trade, 3)

    def hold(self, trade, length):
        found = len(plain.unlike(trade, plain.all_rows(trade.letters, length)))
        self.assertEqual(how_many(trade, length), found, (trade.pairs, length))
        for modulus in MODULI:
            self.assertEqual(how_many_by(trade, length, modulus), found % modulus, (trade.pairs, length, modulus))

    def test_least_rows_counted(self):
        for trade in [*plain.all_trades(3), *plain.all_trades(4)[::4], *plain.all_trades(6)[::4000], ALL_MAY]:
            found = least_rows(trade, 60)
            self.assertEqual([how_many(trade, length) for length in range(61)], found, trade.pairs)
            self.assertEqual([how_many_by(trade, length, 10 ** 9) for length in range(61)], [
                worth % 10 ** 9 for worth in found
            ])

    def test_length_0(self):
        for trade in (TOLD, Trade(1, ()), NONE_MAY, ALL_MAY):
            self.assertEqual(how_many(trade, 0), 1)
            for modulus in MODULI:
                self.assertEqual(how_many_by(trade, 0, modulus), 1 % modulus)

    def test_length_500(self):
        halves = Trade(4, ((0, 2), (0, 3), (1, 2), (1, 3)))
        self.assertEqual(how_many(Trade(1, ()), 500), 1)
        self.assertEqual(how_many(Trade(2, ((0, 1),)), 500), 501)
        self.assertEqual(how_many(NONE_MAY, 500), 6 ** 500)
        self.assertEqual(how_many(ALL_MAY, 500), comb(505, 5))
        self.assertEqual(how_many(halves, 500), 501 * 2 ** 500)
        self.assertEqual(how_many(halves, 499), 500 * 2 ** 499)

    def test_remainders_of_all_lengths(self):
        source = random.Random(26)
        for trade in (TOLD, Trade(1, ()), NONE_MAY, ALL_MAY, source.choice(plain.all_trades(5))):
            for length in range(0, 501, 7):
                worth = how_many(trade, length)
                for modulus in MODULI:
                    self.assertEqual(how_many_by(trade, length, modulus), worth % modulus)


class GreatLengths(unittest.TestCase):
    def test_known_sums(self):
        halves = Trade(4, ((0, 2), (0, 3), (1, 2), (1, 3)))
        for length in (501, 10 ** 9, 10 ** 18 + 9, 10 ** 30 - 1, 10 ** 30):
            for modulus in MODULI:
                told = (length, modulus)
                self.assertEqual(how_many_by(Trade(1, ()), length, modulus), 1 % modulus, told)
                self.assertEqual(how_many_by(Trade(2, ()), length, modulus), pow(2, length, modulus), told)
                self.assertEqual(how_many_by(Trade(2, ((0, 1),)), length, modulus), (length + 1) % modulus, told)
                self.assertEqual(how_many_by(NONE_MAY, length, modulus), pow(6, length, modulus), told)
                self.assertEqual(how_many_by(ALL_MAY, length, modulus), comb(length + 5, 5) % modulus, told)
                found = (length + 1) * pow(2, length, modulus) % modulus
                self.assertEqual(how_many_by(halves, length, modulus), found, told)

    def test_the_recurrence_by_squares(self):
        source = random.Random(27)
        for letters in (1, 2, 3, 4, 5, 6):
            for trade in source.choices(plain.all_trades(letters), k=8):
                for length in (501, source.randrange(10 ** 30), 10 ** 30):
                    for modulus in (1, source.randint(2, 10 ** 9), 10 ** 9):
                        expected = by_squares(trade, length, modulus)
                        self.assertEqual(how_many_by(trade, length, modulus), expected, (trade.pairs, length))


class WrongInputs(unittest.TestCase):
    def test_lengths(self):
        for trade in (TOLD, Trade(1, ())):
            for length in (-1, 501, 502, 10 ** 30):
                self.assertIs(type(raised(how_many, trade, length)), BadLength, length)
            for length in (-1, 10 ** 30 + 1, 10 ** 31):
                self.assertIs(type(raised(how_many_by, trade, length, 1)), BadLength, length)
            for length in (0, 1, 500, 501, 10 ** 30):
                self.assertIsNone(raised(how_many_by, trade, length, 1), length)

    def test_moduli(self):
        for modulus in (0, -1, -7, 10 ** 9 + 1, 10 ** 30, True, False, None, "7", (7,), [7], {}):
            self.assertIs(type(raised(how_many_by, TOLD, 3, modulus)), BadModulus, repr(modulus))
            self.assertIs(type(raised(how_many_by, TOLD, 10 ** 30, modulus)), BadModulus, repr(modulus))
        for modulus in (1, 2, 10 ** 9 - 1, 10 ** 9):
            self.assertEqual(how_many_by(TOLD, 3, modulus), 15 % modulus)

    def test_any_value_as_a_modulus(self):
        for value in any_values():
            error = raised(how_many_by, TOLD, 3, value)
            if is_integer(value) and 1 <= value <= 10 ** 9:
                self.assertIsNone(error, repr(value))
            else:
                self.assertIs(type(error), BadModulus, repr(value))

    def test_the_first_wrong_one(self):
        self.assertIs(type(raised(how_many_by, None, -1, 0)), BadTrade)
        self.assertIs(type(raised(how_many_by, TOLD, 10 ** 30 + 1, 0)), BadLength)
        self.assertIs(type(raised(how_many_by, TOLD, True, 10 ** 9 + 1)), BadLength)
        self.assertIs(type(raised(how_many, None, 501)), BadTrade)
        self.assertIs(type(raised(groups, (3, ()))), BadTrade)


if __name__ == "__main__":
    unittest.main()
