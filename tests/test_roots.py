"""Points 13 and 14: the parts of a row that hang together, powers and roots."""

import random
import unittest
from itertools import combinations, permutations, product

from placetrade.beginnings import either_way
from placetrade.errors import BadNumber, BadRow, BadTrade, TooLong
from placetrade.roots import parts, power, root
from placetrade.rows import alike, least
from placetrade.trades import Trade
from tests import plain
from tests.values import raised

TOLD = Trade(3, ((0, 1), (1, 2)))
NONE_MAY = Trade(6, ())
ALL_MAY = plain.all_trades(6)[-1]
# 0, 1 and 2 hang together only with one another, so do 3 and 4, and 5 alone.
THREE_PARTS = Trade(6, tuple(
    pair for pair in combinations(range(6), 2) if pair not in ((0, 1), (1, 2), (3, 4))
))


def hanging(trade, row):
    """The least rows of what hangs together in a row, by the document's words."""
    letters = sorted(set(row))
    tied = {(a, b) for a, b in product(letters, repeat=2) if tuple(sorted((a, b))) not in trade.pairs}
    for c, a, b in product(letters, repeat=3):
        if (a, c) in tied and (b, c) in tied:
            tied.add((a, b))
    found = {tuple(b for b in row if (a, b) in tied) for a in letters}
    return sorted(plain.least(trade, part) for part in found)


class PlainSearch(unittest.TestCase):
    def test_parts_of_short_rows(self):
        for letters, longest in ((1, 4), (2, 5), (3, 4)):
            for trade in plain.all_trades(letters):
                for row in plain.rows_up_to(letters, longest):
                    self.hold_parts(trade, row)

    def test_parts_of_random_rows(self):
        source = random.Random(21)
        for letters in (4, 5, 6):
            for trade in plain.all_trades(letters)[-1:0:-2 ** (letters - 4) * 5]:
                self.hold_parts(trade, tuple(source.choices(range(letters), k=source.randint(3, 6))))

    def hold_parts(self, trade, row):
        found = parts(trade, row)
        self.assertEqual(found, hanging(trade, row), (trade.pairs, row))
        for some in permutations(found):
            self.assertTrue(alike(trade, sum(some, ()), row), (trade.pairs, row))

    def test_powers(self):
        for letters, longest in ((1, 6), (2, 6), (3, 5)):
            for trade in plain.all_trades(letters):
                for row in plain.rows_up_to(letters, longest):
                    for many in range(longest // max(len(row), 1) + 1):
                        self.assertEqual(power(trade, row, many), plain.least(trade, row * many))

    def test_roots(self):
        for letters, longest in ((1, 6), (2, 6), (3, 4)):
            for trade in plain.all_trades(letters):
                for row in plain.rows_up_to(letters, longest):
                    self.hold_root(trade, row)

    def test_roots_of_powers(self):
        source = random.Random(22)
        for letters in (3, 4):
            for trade in plain.all_trades(letters):
                for length, many in ((1, 6), (2, 3), (3, 2)):
                    row = tuple(source.choices(range(letters), k=length)) * many
                    self.hold_root(trade, plain.shuffled(source, trade, row))

    def hold_root(self, trade, row):
        if not row:
            self.assertEqual(root(trade, row), ((), 1))
            return
        near = plain.distances(trade, row)
        for many in range(len(row), 0, -1):
            short = plain.all_rows(trade.letters, len(row) // many)
            found = [start for start in short if start * many in near]
            if found:
                break
        self.assertEqual(root(trade, row), (found[0], many), (trade.pairs, row))
        self.assertLessEqual(set(found), set(plain.distances(trade, found[0])))

    def test_which_rows_may_change_places_as_a_whole(self):
        for letters, longest in ((1, 3), (2, 4), (3, 3)):
            for trade in plain.all_trades(letters):
                whole = [row for row in plain.rows_up_to(letters, longest) if len(parts(trade, row)) == 1]
                for one, other in product(whole, repeat=2):
                    same = root(trade, one)[0] == root(trade, other)[0]
                    expected = same or plain.may_all(trade, one, other)
                    self.assertIs(either_way(trade, one, other), expected, (trade.pairs, one, other))


class Parts(unittest.TestCase):
    def test_without_letters(self):
        for trade in (Trade(1, ()), NONE_MAY, ALL_MAY):
            self.assertEqual(parts(trade, ()), [])

    def test_none_may(self):
        row = (5, 0, 4, 1, 3) * 4
        self.assertEqual(parts(NONE_MAY, row), [row])
        self.assertEqual(parts(Trade(1, ()), (0,) * 20), [(0,) * 20])

    def test_all_may(self):
        self.assertEqual(parts(ALL_MAY, (5, 0, 4, 1) * 5), [(0,) * 5, (1,) * 5, (4,) * 5, (5,) * 5])

    def test_only_letters_of_the_row_tie(self):
        self.assertEqual(parts(THREE_PARTS, (2, 0, 2, 0)), [(0, 0), (2, 2)])
        self.assertEqual(parts(THREE_PARTS, (2, 0, 2, 0, 1)), [(0, 0, 2, 2, 1)])

    def test_a_letter_ties_parts_that_stand_ahead_of_it(self):
        self.assertEqual(parts(THREE_PARTS, (0, 2, 3, 1, 5, 4)), [(0, 2, 1), (3, 4), (5,)])
        self.assertEqual(parts(THREE_PARTS, (5, 4, 1, 3, 2, 0)), [(1, 0, 2), (4, 3), (5,)])

    def test_parts_are_least_rows_in_ascending_order(self):
        row = (5, 4, 2, 0, 1, 3) * 3 + (4, 2)
        found = parts(THREE_PARTS, row)
        self.assertEqual(found, [(0, 2, 1) * 3 + (2,), (4, 3) * 3 + (4,), (5,) * 3])
        self.assertEqual([least(THREE_PARTS, part) for part in found], found)
        self.assertTrue(alike(THREE_PARTS, found[2] + found[0] + found[1], row))


class Powers(unittest.TestCase):
    def test_of_none_and_of_one(self):
        source = random.Random(23)
        for trade in (TOLD, NONE_MAY, ALL_MAY, THREE_PARTS):
            for length in (0, 1, 8, 20):
                row = tuple(source.choices(range(trade.letters), k=length))
                self.assertEqual(power(trade, row, 0), ())
                self.assertEqual(power(trade, row, 1), least(trade, row))

    def test_without_letters(self):
        for many in (0, 1, 2, 20):
            self.assertEqual(power(TOLD, (), many), ())

    def test_of_exactly_20_letters(self):
        for length, many in ((1, 20), (2, 10), (4, 5), (5, 4), (10, 2), (20, 1)):
            row = ((1, 0, 2, 1) * 5)[:length]
            self.assertEqual(power(NONE_MAY, row, many), row * many)
            self.assertEqual(power(ALL_MAY, row, many), tuple(sorted(row * many)))
            self.assertEqual(power(TOLD, row, many), least(TOLD, row * many))

    def test_too_long(self):
        for length, many in ((7, 3), (3, 7), (11, 2), (2, 11), (20, 2), (20, 20), (2, 20)):
            row = ((1, 0, 2, 1) * 5)[:length]
            self.assertIs(type(raised(power, TOLD, row, many)), TooLong, (length, many))

    def test_wrong_numbers(self):
        for row in ((), (0,), (0,) * 20):
            for many in (-1, 21, 22, 10 ** 30, True, False, None, "1", (1,), [1]):
                self.assertIs(type(raised(power, TOLD, row, many)), BadNumber)
        self.assertIs(type(raised(power, TOLD, (0,) * 21, 1)), BadRow)
        self.assertIs(type(raised(power, None, (0,) * 21, 21)), BadTrade)


class Roots(unittest.TestCase):
    def test_without_letters(self):
        for trade in (Trade(1, ()), NONE_MAY, ALL_MAY):
            self.assertEqual(root(trade, ()), ((), 1))

    def test_great_powers_of_short_rows(self):
        source = random.Random(24)
        for trade in (TOLD, NONE_MAY, ALL_MAY, THREE_PARTS):
            self.assertEqual(root(trade, (2,) * 20), ((2,), 20))
            self.assertEqual(root(trade, (2,) * 19), ((2,), 19))
            for start, many in (((0, 1), 10), ((2, 1, 0), 6), ((2, 0, 2, 1), 5), ((1, 2, 0, 1, 1), 4)):
                row = plain.shuffled(source, trade, start * many)
                self.assertEqual(root(trade, row), (least(trade, start), many))

    def test_parts_with_unlike_powers(self):
        told = Trade(2, ((0, 1),))
        self.assertEqual(root(told, (0, 0, 1, 1, 1)), ((0, 0, 1, 1, 1), 1))
        self.assertEqual(root(told, (1, 0, 1, 0, 1, 1)), ((0, 1, 1), 2))
        self.assertEqual(root(told, (0,) * 8 + (1,) * 12), ((0, 0, 1, 1, 1), 4))
        self.assertEqual(root(told, (0,) * 10 + (1,) * 10), ((0, 1), 10))
        row = (3, 4) * 4 + (0, 1) * 2 + (5,) * 6
        self.assertEqual(root(THREE_PARTS, row), ((0, 1, 3, 4, 3, 4, 5, 5, 5), 2))
        self.assertEqual(root(THREE_PARTS, row + (5,)), (least(THREE_PARTS, row + (5,)), 1))

    def test_as_many_of_each_letter_is_not_enough(self):
        self.assertEqual(root(TOLD, (0, 0, 2, 2)), ((0, 0, 2, 2), 1))
        self.assertEqual(root(TOLD, (0, 2, 2, 0)), ((0, 2, 2, 0), 1))
        self.assertEqual(root(TOLD, (0, 2, 0, 2, 2, 0, 2, 0)), ((0, 2, 0, 2, 2, 0, 2, 0), 1))
        self.assertEqual(root(THREE_PARTS, (3, 4, 3, 4, 0, 0, 1, 1)), ((0, 0, 1, 1, 3, 4, 3, 4), 1))

    def test_the_greatest_power_is_told(self):
        self.assertEqual(root(NONE_MAY, (0, 1) * 8), ((0, 1), 8))
        self.assertEqual(root(NONE_MAY, (0, 1, 1, 0) * 4), ((0, 1, 1, 0), 4))
        self.assertEqual(root(TOLD, (0, 1, 2) * 6), ((0, 1, 2), 6))

    def test_made_powers(self):
        source = random.Random(25)
        for letters in (2, 3, 4, 6):
            for trade in source.sample(plain.all_trades(letters), 2 ** min(letters - 1, 4)):
                many = source.randint(2, 6)
                start = tuple(source.choices(range(letters), k=source.randint(1, 20 // many)))
                row = plain.shuffled(source, trade, start * many)
                found, most = root(trade, row)
                self.assertEqual(most % many, 0, (trade.pairs, row))
                self.assertEqual(power(trade, found, most), least(trade, row))
                self.assertEqual(power(trade, found, most // many), least(trade, start))
                self.assertEqual(root(trade, found), (found, 1))


if __name__ == "__main__":
    unittest.main()
