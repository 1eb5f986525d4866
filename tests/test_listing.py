"""Points 15 and 16: unlike rows with so many of each letter, and all of a length in order."""

import random
import unittest
from itertools import combinations, product
from math import comb, factorial, prod

from placetrade.counts import how_many
from placetrade.errors import BadCounts, BadLength, BadNumber, BadRow, BadTrade, TooLong
from placetrade.listing import how_many_with, least_with, next_least, numbered_least, place_of
from placetrade.rows import least
from placetrade.trades import Trade
from tests import plain
from tests.values import any_values, is_integer, raised

TOLD = Trade(3, ((0, 1), (1, 2)))
NONE_MAY = Trade(6, ())
ALL_MAY = plain.all_trades(6)[-1]
EDGES = (Trade(1, ()), TOLD, NONE_MAY, ALL_MAY)
# 0 may change places with no other letter, the others with one another.
ONE_BARS = Trade(6, tuple(combinations(range(1, 6), 2)))


def is_least(trade, row):
    """Tell whether no letter of a row can pass back to a greater one."""
    for end, letter in enumerate(row):
        for start in range(end - 1, -1, -1):
            if not plain.may_all(trade, (row[start],), (letter,)):
                break
            if letter < row[start]:
                return False
    return True


def row_behind(trade, row):
    """The least row next behind one: the last letter that can be raised is raised."""
    for place in range(len(row) - 1, -1, -1):
        for letter in range(row[place] + 1, trade.letters):
            then = row[:place] + (letter,)
            if is_least(trade, then):
                while len(then) < len(row):
                    longer = [then + (other,) for other in range(trade.letters)]
                    then = next(row for row in longer if is_least(trade, row))
                return then
    return None


def counts_of(letters, total, most=12):
    """All counts of so many letters that are so many together."""
    if letters == 1:
        return [(total,)] if total <= most else []
    ways = [(first, counts_of(letters - 1, total - first, most)) for first in range(min(total, most) + 1)]
    return [(first, *rest) for first, found in ways for rest in found]


def least_rows_with(trade, counts):
    """How many least rows have these counts, letter by letter."""
    ahead = {((), counts): 1}
    for _ in range(sum(counts)):
        then = {}
        for (shut, left), worth in ahead.items():
            for letter in range(trade.letters):
                if left[letter] > 0 and letter not in shut:
                    below = {other for other in {*shut, *range(letter)} if plain.may_all(trade, (other,), (letter,))}
                    fewer = (*left[:letter], left[letter] - 1, *left[letter + 1:])
                    key = (tuple(sorted(below)), fewer)
                    then[key] = then.get(key, 0) + worth
        ahead = then
    return sum(ahead.values())


def in_any_order(counts):
    """How many rows have these counts."""
    return factorial(sum(counts)) // prod(factorial(count) for count in counts)


class PlainSearch(unittest.TestCase):
    def test_all_rows_of_a_length(self):
        for letters, longest in ((1, 6), (2, 7), (3, 5), (4, 3)):
            for trade in plain.all_trades(letters):
                for length in range(longest + 1):
                    self.hold_length(trade, length)
        for trade in [*plain.all_trades(5)[::90], *plain.all_trades(6)[::4000], ONE_BARS, ALL_MAY]:
            self.hold_length(trade, 3)

    def hold_length(self, trade, length):
        told = (trade.letters, trade.pairs, length)
        rows = plain.all_rows(trade.letters, length)
        found = plain.unlike(trade, rows)
        self.assertEqual([numbered_least(trade, length, index) for index in range(len(found))], found, told)
        for index in (-1, len(found)):
            self.assertIs(type(raised(numbered_least, trade, length, index)), BadNumber, told)
        number = {row: index for index, row in enumerate(found)}
        behind = dict(zip(found, [*found[1:], None]))
        for row in rows:
            here = plain.least(trade, row)
            self.assertEqual(place_of(trade, row), number[here], (told, row))
            self.assertEqual(next_least(trade, row), behind[here], (told, row))

    def test_all_counts_of_a_length(self):
        for letters, longest in ((1, 6), (2, 7), (3, 5), (4, 4)):
            for trade in plain.all_trades(letters):
                for length in range(longest + 1):
                    self.hold_counts(trade, length)
        for trade in [*plain.all_trades(5)[::90], *plain.all_trades(6)[::4000], ONE_BARS, ALL_MAY]:
            self.hold_counts(trade, 3)

    def hold_counts(self, trade, length):
        found = {}
        for row in plain.unlike(trade, plain.all_rows(trade.letters, length)):
            found.setdefault(tuple(row.count(letter) for letter in range(trade.letters)), []).append(row)
        self.assertEqual(sorted(found), counts_of(trade.letters, length))
        for counts, rows in found.items():
            told = (trade.letters, trade.pairs, counts)
            self.assertEqual(how_many_with(trade, counts), len(rows), told)
            self.assertEqual(least_with(trade, counts), rows[0], told)


class Counts(unittest.TestCase):
    def test_none_of_any_letter(self):
        for trade in EDGES:
            self.assertEqual(how_many_with(trade, (0,) * trade.letters), 1)
            self.assertEqual(least_with(trade, (0,) * trade.letters), ())

    def test_one_letter_alone(self):
        for trade in EDGES:
            for count in (1, 11, 12):
                counts = (count,) + (0,) * (trade.letters - 1)
                self.assertEqual(how_many_with(trade, counts), 1)
                self.assertEqual(least_with(trade, counts), (0,) * count)
                self.assertEqual(how_many_with(trade, counts[::-1]), 1)
                self.assertEqual(least_with(trade, counts[::-1]), (trade.letters - 1,) * count)

    def test_of_40_letters(self):
        halves = Trade(4, ((0, 2), (0, 3), (1, 2), (1, 3)))
        for counts in ((12, 12, 12, 4, 0, 0), (7, 7, 7, 7, 6, 6), (0, 0, 12, 12, 4, 12), (12, 1, 12, 1, 12, 2)):
            self.assertEqual(how_many_with(NONE_MAY, counts), in_any_order(counts))
            self.assertEqual(how_many_with(ALL_MAY, counts), 1)
            # The letters that 0 bars stand, each kind by itself, in the gaps between those 0.
            gaps = prod(comb(counts[0] + count, count) for count in counts[1:])
            self.assertEqual(how_many_with(ONE_BARS, counts), gaps)
        for counts in ((12, 12, 12, 4), (4, 12, 12, 12), (10, 10, 10, 10)):
            found = comb(counts[0] + counts[1], counts[0]) * comb(counts[2] + counts[3], counts[2])
            self.assertEqual(how_many_with(halves, counts), found)

    def test_40_letters_together_and_41(self):
        for counts in ((12, 12, 12, 5, 0, 0), (7, 7, 7, 7, 7, 6), (0, 5, 12, 12, 0, 12), (12,) * 6):
            for trade in (NONE_MAY, ALL_MAY, ONE_BARS):
                self.assertIs(type(raised(how_many_with, trade, counts)), BadCounts)
                self.assertIs(type(raised(least_with, trade, counts)), BadCounts)
        self.assertIs(type(raised(how_many_with, Trade(4, ()), (10, 10, 10, 11))), BadCounts)
        self.assertIsNone(raised(how_many_with, Trade(4, ()), (10, 10, 10, 10)))

    def test_12_of_a_letter_and_13(self):
        for trade in EDGES:
            for place in range(trade.letters):
                counts = [1] * trade.letters
                counts[place] = 12
                self.assertIsNone(raised(how_many_with, trade, tuple(counts)))
                self.assertIsNone(raised(least_with, trade, tuple(counts)))
                for wrong in (13, -1, 10 ** 30):
                    counts[place] = wrong
                    self.assertIs(type(raised(how_many_with, trade, tuple(counts))), BadCounts)
                    self.assertIs(type(raised(least_with, trade, tuple(counts))), BadCounts)

    def test_least_rows_counted(self):
        source = random.Random(51)
        for letters, most in ((2, 12), (3, 8), (4, 5), (5, 3), (6, 3)):
            for trade in source.choices(plain.all_trades(letters), k=8):
                counts = tuple(source.randint(0, most) for _ in range(letters))
                expected = least_rows_with(trade, counts)
                self.assertEqual(how_many_with(trade, counts), expected, (trade.pairs, counts))

    def test_all_counts_of_a_length_together(self):
        for trade in [*plain.all_trades(3), *plain.all_trades(4)[::7], ONE_BARS]:
            for length in range(0, 13 if trade.letters < 6 else 6, 3):
                total = sum(how_many_with(trade, counts) for counts in counts_of(trade.letters, length))
                self.assertEqual(total, how_many(trade, length), (trade.pairs, length))

    def test_least_with_20_letters_and_21(self):
        for trade in (NONE_MAY, ALL_MAY, ONE_BARS):
            self.assertEqual(least_with(trade, (4, 4, 3, 3, 3, 3)), tuple(sorted((0, 1, 2, 3, 4, 5) * 3 + (0, 1))))
            self.assertEqual(least_with(trade, (0, 12, 0, 8, 0, 0)), (1,) * 12 + (3,) * 8)
            for counts in ((4, 4, 4, 3, 3, 3), (12, 9, 0, 0, 0, 0), (12, 12, 12, 4, 0, 0), (9, 0, 0, 0, 0, 12)):
                self.assertIs(type(raised(least_with, trade, counts)), TooLong)
                self.assertIsNone(raised(how_many_with, trade, counts))

    def test_least_with_is_the_least_row_alike_to_itself(self):
        source = random.Random(52)
        for letters in (1, 2, 3, 4, 5, 6):
            for trade in source.choices(plain.all_trades(letters), k=6):
                counts = tuple(source.randint(0, 3) for _ in range(letters))
                row = least_with(trade, counts)
                self.assertEqual(tuple(row.count(letter) for letter in range(letters)), counts)
                self.assertEqual(least(trade, row), row)

    def test_wrong_counts(self):
        for called in (how_many_with, least_with):
            for value in [*any_values(), (1, 1, 1, 1), [1, 1, 1], {0: 1, 1: 1, 2: 1}, "111"]:
                self.assertIs(type(raised(called, TOLD, value)), BadCounts, repr(value))
            for value in any_values():
                for place in range(3):
                    counts = (*(1, 1, 1)[:place], value, *(1, 1, 1)[place + 1:])
                    if is_integer(value) and 0 <= value <= 12:
                        self.assertIsNone(raised(called, TOLD, counts), repr(value))
                    else:
                        self.assertIs(type(raised(called, TOLD, counts)), BadCounts, repr(value))
            for letters in range(1, 7):
                for size in range(8):
                    error = raised(called, Trade(letters, ()), (1,) * size)
                    self.assertIs(type(error), type(None) if size == letters else BadCounts)

    def test_the_first_wrong_one(self):
        for called in (how_many_with, least_with):
            for value in (None, (3, ()), 3):
                self.assertIs(type(raised(called, value, (13,))), BadTrade)


class Lengths(unittest.TestCase):
    def test_length_0(self):
        for trade in EDGES:
            self.assertEqual(numbered_least(trade, 0, 0), ())
            self.assertEqual(place_of(trade, ()), 0)
            self.assertIsNone(next_least(trade, ()))
            for index in (-1, 1):
                self.assertIs(type(raised(numbered_least, trade, 0, index)), BadNumber)

    def test_first_and_last_of_each_length(self):
        for trade in (*EDGES, ONE_BARS):
            for length in (1, 2, 19, 20, 21, 59, 60):
                last = how_many(trade, length) - 1
                self.assertEqual(numbered_least(trade, length, 0), (0,) * length)
                self.assertEqual(numbered_least(trade, length, last), (trade.letters - 1,) * length)
                for index in (-1, last + 1, last + 2, 10 ** 60):
                    self.assertIs(type(raised(numbered_least, trade, length, index)), BadNumber)

    def test_length_60_and_61(self):
        for trade in EDGES:
            self.assertIsNone(raised(numbered_least, trade, 60, 0))
            for length in (61, 62, -1, 500, 10 ** 30):
                self.assertIs(type(raised(numbered_least, trade, length, 0)), BadLength)

    def test_none_may(self):
        source = random.Random(53)
        for length in (1, 5, 20, 60):
            for index in (source.randrange(6 ** length), 6 ** length // 2):
                row = tuple(index // 6 ** place % 6 for place in range(length - 1, -1, -1))
                self.assertEqual(numbered_least(NONE_MAY, length, index), row)
                if length <= 20:
                    self.assertEqual(place_of(NONE_MAY, row), index)
                    self.assertEqual(place_of(NONE_MAY, row[:-1] + (5,)), index - index % 6 + 5)

    def test_all_may(self):
        told = Trade(2, ((0, 1),))
        for length in (1, 20, 60):
            rows = [(0,) * (length - many) + (1,) * many for many in range(length + 1)]
            self.assertEqual([numbered_least(told, length, index) for index in range(length + 1)], rows)
        for index in (0, 1, comb(65, 5) // 3, comb(65, 5) - 1):
            row = numbered_least(ALL_MAY, 60, index)
            self.assertEqual(row, tuple(sorted(row)))
            # As many rows in order are less as raise one letter first, the ones ahead left as they are.
            less = sum(
                comb(60 - place - 1 + 5 - lower, 5 - lower)
                for place, letter in enumerate(row)
                for lower in range(row[place - 1] if place else 0, letter)
            )
            self.assertEqual(less, index)

    def test_rows_of_more_than_20_letters(self):
        source = random.Random(54)
        for letters in (1, 2, 3, 4, 5, 6):
            for trade in source.choices(plain.all_trades(letters), k=5):
                for length in (21, 40, 60):
                    self.hold_neighbours(trade, length, source.randrange(how_many(trade, length)))

    def hold_neighbours(self, trade, length, index):
        row = numbered_least(trade, length, index)
        self.assertEqual(len(row), length)
        self.assertTrue(is_least(trade, row), (trade.pairs, row))
        for number in range(index + 1, min(index + 6, how_many(trade, length))):
            row = row_behind(trade, row)
            self.assertEqual(numbered_least(trade, length, number), row, (trade.pairs, length, number))


class LongRows(unittest.TestCase):
    def test_places_and_numbers(self):
        source = random.Random(55)
        for letters in (1, 2, 3, 4, 5, 6):
            for trade in source.choices(plain.all_trades(letters), k=6):
                for length in (7, 19, 20):
                    count = how_many(trade, length)
                    for index in (0, source.randrange(count), source.randrange(count), count - 1):
                        row = numbered_least(trade, length, index)
                        self.assertEqual(least(trade, row), row)
                        other = plain.shuffled(source, trade, row)
                        self.assertEqual(place_of(trade, row), index)
                        self.assertEqual(place_of(trade, other), index)
                        self.assertEqual(next_least(trade, other), row_behind(trade, row))

    def test_behind_one_another(self):
        source = random.Random(56)
        for trade in source.choices(plain.all_trades(4), k=6):
            row = tuple(source.choices(range(4), k=20))
            place = place_of(trade, row)
            for number in range(place + 1, place + 20):
                row = next_least(trade, row)
                self.assertEqual(place_of(trade, row), number)

    def test_the_last_row_of_a_length(self):
        for trade in EDGES:
            for length in (1, 2, 19, 20):
                last = (trade.letters - 1,) * length
                self.assertIsNone(next_least(trade, last))
                self.assertEqual(place_of(trade, last), how_many(trade, length) - 1)
        self.assertEqual(next_least(ALL_MAY, (5,) * 19 + (4,)), (5,) * 20)
        self.assertEqual(next_least(NONE_MAY, (5,) * 19 + (4,)), (5,) * 20)
        self.assertEqual(next_least(TOLD, (0, 2, 2)), (1, 1, 1))


class WrongInputs(unittest.TestCase):
    def test_lengths_and_indexes(self):
        for value in any_values():
            error = raised(numbered_least, TOLD, value, 0)
            right = is_integer(value) and 0 <= value <= 60
            self.assertIs(type(error), type(None) if right else BadLength, repr(value))
            for length in (0, 1, 2, 60):
                error = raised(numbered_least, TOLD, length, value)
                right = is_integer(value) and 0 <= value < how_many(TOLD, length)
                self.assertIs(type(error), type(None) if right else BadNumber, repr(value))

    def test_the_first_wrong_one(self):
        self.assertIs(type(raised(numbered_least, None, 61, -1)), BadTrade)
        self.assertIs(type(raised(numbered_least, TOLD, 61, -1)), BadLength)
        self.assertIs(type(raised(numbered_least, TOLD, True, True)), BadLength)
        for called in (place_of, next_least):
            self.assertIs(type(raised(called, (3, ()), (3,))), BadTrade)
            for row in ((3,), [0], (0,) * 21, (True,), (0, None)):
                self.assertIs(type(raised(called, TOLD, row)), BadRow)


if __name__ == "__main__":
    unittest.main()
