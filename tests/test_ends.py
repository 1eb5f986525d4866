"""Points 11 and 12: ends, beginnings and how many, and rows that are cut twice."""

import random
import unittest
from itertools import product
from math import prod

from placetrade.ends import beginnings, common_end, count_beginnings, crossed, rest_ahead
from placetrade.errors import BadLength, BadRow, BadTrade, TooLong
from placetrade.rows import least
from placetrade.trades import Trade
from tests import plain
from tests.values import raised

TOLD = Trade(3, ((0, 1), (1, 2)))
NONE_MAY = Trade(6, ())
ALL_MAY = plain.all_trades(6)[-1]


class PlainSearch(unittest.TestCase):
    def test_what_rows_end_with(self):
        for letters, longest in ((1, 4), (2, 4), (3, 3)):
            rows = plain.rows_up_to(letters, longest)
            for trade in plain.all_trades(letters):
                lasts = {row: plain.lasts(trade, row) for row in rows}
                for row in rows:
                    near = plain.distances(trade, row)
                    for one in rows:
                        self.hold_rest(trade, one, row, near)
                        self.hold_common(trade, one, row, lasts[one] & lasts[row])

    def test_random_rows_of_more_letters(self):
        source = random.Random(13)
        for letters in (4, 5, 6):
            for trade in source.sample(plain.all_trades(letters), 30):
                row = tuple(source.choices(range(letters), k=source.randint(3, 6)))
                near = plain.distances(trade, row)
                end = source.choice(list(near))[-source.randint(1, 3):]
                one = tuple(source.choices(range(letters), k=source.randint(0, 2))) + end
                self.hold_rest(trade, end, row, near)
                self.hold_rest(trade, one, row, near)
                self.hold_common(trade, one, row, plain.lasts(trade, one) & plain.lasts(trade, row))

    def hold_rest(self, trade, one, row, near):
        cut = len(row) - len(one)
        left = [there[:cut] for there in near if cut >= 0 and there[cut:] == one]
        self.assertEqual(rest_ahead(trade, one, row), min(left, default=None), (trade.pairs, one, row))

    def hold_common(self, trade, one, row, shared):
        told = (trade.pairs, one, row)
        most = max(map(len, shared))
        greatest = [end for end in shared if len(end) == most]
        self.assertEqual(common_end(trade, one, row), min(greatest), told)
        self.assertEqual(set(greatest), set(plain.distances(trade, greatest[0])), told)

    def test_all_beginnings(self):
        for letters, longest in ((1, 5), (2, 5), (3, 4)):
            for trade in plain.all_trades(letters):
                for row in plain.rows_up_to(letters, longest):
                    self.hold_beginnings(trade, row)

    def test_beginnings_of_random_rows(self):
        source = random.Random(14)
        for letters in (4, 5, 6):
            for trade in source.sample(plain.all_trades(letters), 20):
                self.hold_beginnings(trade, tuple(source.choices(range(letters), k=source.randint(4, 6))))

    def hold_beginnings(self, trade, row):
        told = (trade.pairs, row)
        found = plain.unlike(trade, plain.firsts(trade, row))
        self.assertEqual(beginnings(trade, row), found, told)
        for length in range(len(row) + 2):
            expected = sum(len(start) == length for start in found)
            self.assertEqual(count_beginnings(trade, row, length), expected, told)


class CutBySearch(unittest.TestCase):
    def search(self, trade, first, second, third, fourth):
        """The least rows of all four parts that the document asks for."""
        found = set()
        for above, below in product(plain.distances(trade, first), plain.distances(trade, second)):
            for high, low in product(range(len(above) + 1), range(len(below) + 1)):
                p, q, r, s = above[:high], above[high:], below[:low], below[low:]
                if p + r in plain.distances(trade, third) and q + s in plain.distances(trade, fourth):
                    if plain.may_all(trade, q, r):
                        found.add(tuple(plain.least(trade, part) for part in (p, q, r, s)))
        return found

    def hold(self, trade, rows):
        told = (trade.pairs, rows)
        found = crossed(trade, *rows)
        if rows[2] + rows[3] in plain.distances(trade, rows[0] + rows[1]):
            self.assertEqual({found}, self.search(trade, *rows), told)
        else:
            self.assertIsNone(found, told)

    def test_all_rows_of_two_letters(self):
        for trade in plain.all_trades(2):
            for rows in product(plain.rows_up_to(2, 2), repeat=4):
                self.hold(trade, rows)

    def test_all_ways_to_cut(self):
        source = random.Random(15)
        for letters in (3, 4):
            for trade in plain.all_trades(letters):
                row = tuple(source.choices(range(letters), k=5))
                near = sorted(plain.distances(trade, row))
                for high, low in product(range(6), repeat=2):
                    one, other = source.choice(near), source.choice(near)
                    self.hold(trade, (one[:high], one[high:], other[:low], other[low:]))

    def test_rows_that_are_not_alike(self):
        source = random.Random(16)
        for trade in plain.all_trades(3):
            for _ in range(30):
                one = source.choices(range(3), k=4)
                other = source.sample(one, 4)
                self.hold(trade, (tuple(one[:2]), tuple(one[2:]), tuple(other[:3]), tuple(other[3:])))


class Edges(unittest.TestCase):
    def test_without_letters(self):
        for trade in (Trade(1, ()), NONE_MAY, ALL_MAY):
            for row in ((), (0,), (0,) * 20):
                self.assertEqual(rest_ahead(trade, (), row), row)
                self.assertEqual(rest_ahead(trade, row, ()), None if row else ())
                self.assertEqual([common_end(trade, (), row), common_end(trade, row, ())], [(), ()])
                self.assertEqual(count_beginnings(trade, row, 0), 1)
                self.assertEqual(crossed(trade, (), row, row, ()), ((), (), row, ()))
                self.assertEqual(crossed(trade, row, (), (), row), ((), row, (), ()))
            self.assertEqual(beginnings(trade, ()), [()])
            self.assertEqual(count_beginnings(trade, (), 1), 0)
            self.assertEqual(count_beginnings(trade, (), 20), 0)
            self.assertEqual(crossed(trade, (), (), (), ()), ((), (), (), ()))
            self.assertIsNone(crossed(trade, (), (), (), (0,)))

    def test_a_row_ends_with_itself(self):
        source = random.Random(17)
        for trade in (TOLD, Trade(1, ()), NONE_MAY, ALL_MAY):
            for length in (1, 8, 20):
                row = tuple(source.choices(range(trade.letters), k=length))
                other = plain.shuffled(source, trade, row)
                self.assertEqual(rest_ahead(trade, row, other), ())
                self.assertEqual(common_end(trade, row, other), least(trade, row))

    def test_a_longer_row_is_no_end(self):
        self.assertIsNone(rest_ahead(TOLD, (1, 0, 1, 2), (0, 1, 2)))
        self.assertIsNone(rest_ahead(ALL_MAY, (0, 0), (0,)))

    def test_what_is_left_is_the_least_row(self):
        self.assertEqual(rest_ahead(TOLD, (2,), (2, 1, 0, 2)), (1, 2, 0))
        self.assertEqual(rest_ahead(TOLD, (2,), (1, 0, 2, 1)), (0, 1, 1))
        self.assertEqual(common_end(TOLD, (0, 2, 1, 0), (2, 2, 1, 0)), (1, 2, 0))

    def test_beginnings_where_none_may(self):
        row = (5, 0, 4, 1, 3, 2, 0, 0)
        self.assertEqual(beginnings(NONE_MAY, row), [row[:length] for length in range(9)])
        long = (5, 0, 4, 1) * 5
        for length in range(21):
            self.assertEqual(count_beginnings(NONE_MAY, long, length), 1)
            self.assertEqual(count_beginnings(NONE_MAY, long[:12], length), 1 if length <= 12 else 0)

    def test_beginnings_where_all_may(self):
        found = beginnings(ALL_MAY, (5, 0, 4, 1, 3, 2, 0, 0))
        self.assertEqual(len(found), 4 * 2 ** 5)
        self.assertEqual(found[0:4], [(), (0,), (0, 0), (0, 0, 0)])
        self.assertEqual(found[-2:], [(4, 5), (5,)])
        self.assertEqual(sum(count_beginnings(ALL_MAY, (0, 1, 2, 3) * 5, k) for k in range(21)), 6 ** 4)
        self.assertEqual(count_beginnings(ALL_MAY, (0, 1) * 10, 10), 11)
        self.assertEqual(count_beginnings(ALL_MAY, (0, 1) * 10, 19), 2)

    def test_too_long(self):
        for length in (9, 10, 20):
            self.assertIs(type(raised(beginnings, TOLD, ((0, 1) * 10)[:length])), TooLong)
        self.assertEqual(len(beginnings(Trade(2, ((0, 1),)), (0, 1) * 4)), 25)
        self.assertIs(type(raised(beginnings, TOLD, (0,) * 21)), BadRow)
        self.assertIs(type(raised(beginnings, None, (0,) * 9)), BadTrade)

    def test_lengths(self):
        for row in ((), (0, 1, 2), (0, 1) * 10):
            for length in (-1, 21, 22, 10 ** 30, True, False, None, "1", (1,)):
                self.assertIs(type(raised(count_beginnings, TOLD, row, length)), BadLength)
            self.assertEqual(count_beginnings(TOLD, row, 20), 1 if len(row) == 20 else 0)

    def test_not_alike(self):
        self.assertIsNone(crossed(TOLD, (0, 2), (1,), (2, 0), (1,)))
        self.assertIsNone(crossed(NONE_MAY, (0,), (1,), (1,), (0,)))
        self.assertIsNone(crossed(TOLD, (0, 1), (2,), (0, 1), (2, 2)))

    def test_cut_at_the_same_place(self):
        self.assertEqual(crossed(TOLD, (1, 0), (2, 1), (0, 1), (1, 2)), ((0, 1), (), (), (1, 2)))
        row = (0, 1, 2, 3, 4, 5) * 3
        self.assertEqual(crossed(NONE_MAY, row, row, row, row), (row, (), (), row))
        self.assertIsNone(crossed(NONE_MAY, row, row, row[:8], row[8:] + row[:10]))
        self.assertEqual(crossed(NONE_MAY, row, row[:8], row[:8], row[8:] + row[:8]), (row[:8], row[8:], (), row[:8]))


class LongRows(unittest.TestCase):
    def test_ends_of_made_rows(self):
        source = random.Random(18)
        for letters in (2, 3, 4, 6):
            for trade in source.sample(plain.all_trades(letters), 2 ** min(letters - 1, 4)):
                end = tuple(source.choices(range(letters), k=source.randint(1, 15)))
                more = [tuple(source.choices(range(letters), k=20 - len(end))) for _ in range(2)]
                one, other = [plain.shuffled(source, trade, left + end) for left in more]
                self.assertEqual(rest_ahead(trade, end, one), least(trade, more[0]))
                both = common_end(trade, one, other)
                self.assertEqual(common_end(trade, other, one), both)
                self.assertIsNotNone(rest_ahead(trade, end, both))
                left = [rest_ahead(trade, both, row) for row in (one, other)]
                for row, ahead in zip((one, other), left):
                    self.assertEqual(least(trade, ahead + both), least(trade, row))
                for letter in range(letters):
                    self.assertIn(None, [rest_ahead(trade, (letter,), row) for row in left])

    def test_counts_of_long_rows(self):
        source = random.Random(19)
        for trade in source.sample(plain.all_trades(4), 10):
            row = tuple(source.choices(range(4), k=20))
            times = [row.count(letter) for letter in range(4)]
            expected = [0] * 21
            for counts in product(*[range(most + 1) for most in times]):
                if self.can_stand_ahead(trade, row, counts):
                    expected[sum(counts)] += 1
            found = [count_beginnings(trade, row, length) for length in range(21)]
            self.assertEqual(found, expected, (trade.pairs, row))
            self.assertLessEqual(sum(found), prod(most + 1 for most in times))

    def can_stand_ahead(self, trade, row, counts):
        """Tell whether the first ones of each letter, so many, pass all others."""
        behind = []
        for place, letter in enumerate(row):
            if row[:place].count(letter) >= counts[letter]:
                behind.append(letter)
            elif not plain.may_all(trade, behind, (letter,)):
                return False
        return True

    def test_made_parts(self):
        source = random.Random(20)
        for letters, apart in ((2, ((0,), (1,))), (4, ((0, 1), (2, 3))), (6, ((1, 4, 5), (0, 2)))):
            may = tuple(sorted(tuple(sorted(pair)) for pair in product(*apart)))
            for trade in (Trade(letters, may), plain.all_trades(letters)[-1]):
                for _ in range(10):
                    p, s = [tuple(source.choices(range(letters), k=10)) for _ in range(2)]
                    q, r = [tuple(source.choices(some, k=10)) for some in apart]
                    rows = [plain.shuffled(source, trade, row) for row in (p + q, r + s, p + r, q + s)]
                    expected = tuple(least(trade, row) for row in (p, q, r, s))
                    self.assertEqual(crossed(trade, *rows), expected, (trade.pairs, rows))


if __name__ == "__main__":
    unittest.main()
