"""Points 5 and 6: beginnings, and rows that are turned."""

import random
import unittest

from placetrade.beginnings import are_turned, common, either_way, rest, together, turned
from placetrade.errors import BadRow, BadTrade, TooLong
from placetrade.rows import alike, least
from placetrade.trades import Trade
from tests import plain
from tests.values import raised

TOLD = Trade(3, ((0, 1), (1, 2)))
NONE_MAY = Trade(6, ())
ALL_MAY = plain.all_trades(6)[-1]


class PlainSearch(unittest.TestCase):
    def test_what_rows_begin_with(self):
        for letters, longest in ((1, 4), (2, 4), (3, 3)):
            rows = plain.rows_up_to(letters, longest)
            for trade in plain.all_trades(letters):
                firsts = {row: plain.firsts(trade, row) for row in rows}
                for row in rows:
                    near = plain.distances(trade, row)
                    for one in rows:
                        self.hold_rest(trade, one, row, near)
                        self.hold_common(trade, one, row, firsts[one] & firsts[row])

    def test_random_rows_of_more_letters(self):
        source = random.Random(8)
        for letters in (4, 5, 6):
            for trade in source.sample(plain.all_trades(letters), 30):
                row = tuple(source.choices(range(letters), k=source.randint(3, 6)))
                near = plain.distances(trade, row)
                start = source.choice(list(near))[:source.randint(1, 3)]
                one = start + tuple(source.choices(range(letters), k=source.randint(0, 2)))
                self.hold_rest(trade, start, row, near)
                self.hold_rest(trade, one, row, near)
                self.hold_common(trade, one, row, plain.firsts(trade, one) & plain.firsts(trade, row))

    def hold_rest(self, trade, one, row, near):
        left = [there[len(one):] for there in near if there[:len(one)] == one]
        self.assertEqual(rest(trade, one, row), min(left, default=None), (trade.pairs, one, row))

    def hold_common(self, trade, one, row, shared):
        told = (trade.pairs, one, row)
        most = max(map(len, shared))
        greatest = [start for start in shared if len(start) == most]
        self.assertEqual(common(trade, one, row), min(greatest), told)
        self.assertEqual(set(greatest), set(plain.distances(trade, greatest[0])), told)

    def test_what_begins_with_both(self):
        for letters, longest in ((1, 3), (2, 3), (3, 2)):
            rows = plain.rows_up_to(letters, longest)
            for trade in plain.all_trades(letters):
                longer = [(row, plain.firsts(trade, row)) for row in plain.rows_up_to(letters, 2 * longest)]
                for one in rows:
                    for other in rows:
                        found = [row for row, firsts in longer if one in firsts and other in firsts]
                        self.hold_together(trade, one, other, found)

    def hold_together(self, trade, one, other, found):
        told = (trade.pairs, one, other)
        # Shorter rows stand ahead, and of those of one length the least one.
        self.assertEqual(together(trade, one, other), found[0] if found else None, told)
        if found:
            shortest = [row for row in found if len(row) == len(found[0])]
            self.assertEqual(set(shortest), set(plain.distances(trade, found[0])), told)

    def test_either_way(self):
        for letters, longest in ((1, 3), (2, 3), (3, 2)):
            rows = plain.rows_up_to(letters, longest)
            for trade in plain.all_trades(letters):
                for one in rows:
                    for other in rows:
                        expected = other + one in plain.distances(trade, one + other)
                        self.assertIs(either_way(trade, one, other), expected, (trade.pairs, one, other))


class TurnedBySearch(unittest.TestCase):
    def search(self, trade, row):
        """All rows that come of a row, by changes and by turns."""
        found = {row}
        waiting = [row]
        for now in waiting:
            near = list(plain.distances(trade, now))
            for there in near + [there[1:] + there[:1] for there in near]:
                if there not in found:
                    found.add(there)
                    waiting.append(there)
        return found

    def test_all_short_rows(self):
        for letters, longest in ((1, 5), (2, 5), (3, 4)):
            for trade in plain.all_trades(letters):
                for row in plain.rows_up_to(letters, longest):
                    found = self.search(trade, row)
                    expected = plain.unlike(trade, found)
                    self.assertEqual(turned(trade, row), expected, (trade.pairs, row))
                    for other in plain.all_rows(letters, len(row))[::7]:
                        self.assertIs(are_turned(trade, row, other), other in found, (trade.pairs, row, other))

    def test_random_rows(self):
        source = random.Random(9)
        for letters in (4, 5, 6):
            for trade in source.sample(plain.all_trades(letters), 12):
                row = tuple(source.choices(range(letters), k=5))
                found = self.search(trade, row)
                self.assertEqual(turned(trade, row), plain.unlike(trade, found), (trade.pairs, row))
                for other in (source.choice(sorted(found)), tuple(source.sample(row, 5))):
                    self.assertIs(are_turned(trade, row, other), other in found)


class Edges(unittest.TestCase):
    def test_without_letters(self):
        for trade in (Trade(1, ()), NONE_MAY, ALL_MAY):
            for row in ((), (0,), (0,) * 20):
                self.assertEqual(rest(trade, (), row), row)
                self.assertEqual(rest(trade, row, ()), None if row else ())
                self.assertEqual([common(trade, (), row), common(trade, row, ())], [(), ()])
                self.assertEqual([together(trade, (), row), together(trade, row, ())], [row, row])
                self.assertIs(either_way(trade, (), row), True)
            self.assertEqual(turned(trade, ()), [()])
            self.assertIs(are_turned(trade, (), ()), True)
            self.assertIs(are_turned(trade, (), (0,)), False)
            self.assertIs(are_turned(trade, (0,), ()), False)

    def test_a_row_begins_with_itself(self):
        source = random.Random(10)
        for trade in (TOLD, Trade(1, ()), NONE_MAY, ALL_MAY):
            for length in (1, 8, 20):
                row = tuple(source.choices(range(trade.letters), k=length))
                other = plain.shuffled(source, trade, row)
                self.assertEqual(rest(trade, row, other), ())
                self.assertEqual(common(trade, row, other), least(trade, row))
                self.assertEqual(together(trade, row, other), least(trade, row))
                self.assertIs(either_way(trade, row, other), True)

    def test_a_longer_row_is_no_beginning(self):
        self.assertIsNone(rest(TOLD, (0, 1, 2, 1), (0, 1, 2)))
        self.assertIsNone(rest(ALL_MAY, (0, 0), (0,)))

    def test_what_is_left_is_the_least_row(self):
        self.assertEqual(rest(TOLD, (2,), (2, 2, 1, 0)), (1, 2, 0))
        self.assertEqual(common(TOLD, (2, 1, 0), (2, 1, 2)), (1, 2))
        self.assertEqual(together(TOLD, (2, 0), (2, 1)), (1, 2, 0))

    def test_nothing_begins_with_both(self):
        self.assertIsNone(together(NONE_MAY, (0,), (1,)))
        self.assertIsNone(together(NONE_MAY, (3, 4, 0), (3, 4, 1)))
        self.assertIsNone(together(TOLD, (1, 0), (1, 2)))
        self.assertIsNone(together(TOLD, (0, 2), (2, 0)))

    def test_letters_left_that_may_change_places(self):
        self.assertEqual(together(TOLD, (0, 2), (0, 1)), (0, 1, 2))
        self.assertEqual(together(ALL_MAY, (0, 5, 5), (5, 3)), (0, 3, 5, 5))
        self.assertEqual(together(NONE_MAY, (3, 4), (3, 4, 1)), (3, 4, 1))

    def test_more_than_20_letters_together(self):
        self.assertEqual(together(ALL_MAY, (1,) * 20, (0,) * 20), (0,) * 20 + (1,) * 20)
        told = Trade(4, ((0, 2), (0, 3), (1, 2), (1, 3)))
        one, other = (2, 3) * 10, (0, 1) * 10
        self.assertEqual(together(told, one, other), other + one)
        self.assertEqual(together(told, one, other[1:]), other[1:] + one)
        self.assertIsNone(together(told, one + (), (3, 2) * 10))

    def test_either_way_of_long_rows(self):
        self.assertIs(either_way(NONE_MAY, (0, 1) * 10, (0, 1) * 5), True)
        self.assertIs(either_way(NONE_MAY, (0, 1) * 10, (1, 0) * 10), False)
        self.assertIs(either_way(ALL_MAY, (0, 1, 2, 3) * 5, (3, 5) * 10), True)
        self.assertIs(either_way(TOLD, (0, 2, 1) * 6, (1, 0, 2, 1, 1)), True)
        self.assertIs(either_way(TOLD, (0, 2, 1) * 6, (1, 2, 0, 1, 1)), False)


class LongRows(unittest.TestCase):
    def test_made_rows(self):
        source = random.Random(11)
        for letters in (2, 3, 4, 6):
            for trade in source.sample(plain.all_trades(letters), 2 ** min(letters - 1, 4)):
                start = tuple(source.choices(range(letters), k=source.randint(1, 15)))
                more = [tuple(source.choices(range(letters), k=20 - len(start))) for _ in range(2)]
                one, other = [plain.shuffled(source, trade, start + left) for left in more]
                self.assertEqual(rest(trade, start, one), least(trade, more[0]))
                self.hold(trade, start, one, other)

    def hold(self, trade, start, one, other):
        both = common(trade, one, other)
        self.assertEqual(common(trade, other, one), both)
        self.assertIsNotNone(rest(trade, start, both))
        left = [rest(trade, both, row) for row in (one, other)]
        for row, behind in zip((one, other), left):
            self.assertTrue(alike(trade, both + behind, row))
        for letter in range(trade.letters):
            self.assertIn(None, [rest(trade, (letter,), row) for row in left])
        found = together(trade, one, other)
        self.assertEqual(together(trade, other, one), found)
        if not plain.may_all(trade, *left):
            self.assertIsNone(found)
        elif len(both + left[0] + left[1]) <= 20:
            self.assertEqual(found, least(trade, both + left[0] + left[1]))

    def test_letters_on_both_sides(self):
        told = Trade(5, ((0, 3), (0, 4), (1, 3), (1, 4)))
        start = (2, 0, 3, 1, 4, 2)
        one, other = start + (4, 3, 4), start + (1, 0)
        self.assertEqual(common(told, one, other), least(told, start))
        self.assertEqual(together(told, one, other), least(told, start + (1, 0, 4, 3, 4)))
        self.assertEqual(together(told, one + (2,), other), None)
        self.assertEqual(together(told, one + (2,), start + (4,)), least(told, one + (2,)))


class Turns(unittest.TestCase):
    def test_none_may(self):
        row = (5, 0, 4, 1, 3, 2, 0, 0)
        turns = sorted(row[place:] + row[:place] for place in range(8))
        self.assertEqual(turned(NONE_MAY, row), turns)
        for turn in turns:
            self.assertIs(are_turned(NONE_MAY, row, turn), True)
        self.assertIs(are_turned(NONE_MAY, row, row[::-1]), False)

    def test_all_may(self):
        row = (5, 0, 4, 1, 3, 2, 0, 0)
        self.assertEqual(turned(ALL_MAY, row), [tuple(sorted(row))])
        self.assertIs(are_turned(ALL_MAY, row, row[::-1]), True)

    def test_one_letter(self):
        for length in range(9):
            self.assertEqual(turned(Trade(1, ()), (0,) * length), [(0,) * length])

    def test_rows_of_8_letters(self):
        source = random.Random(12)
        for trade in (TOLD, Trade(4, ((0, 1), (1, 2), (2, 3))), Trade(6, ((0, 5), (1, 4), (2, 3)))):
            row = tuple(source.choices(range(trade.letters), k=8))
            found = turned(trade, row)
            self.assertIn(least(trade, row), found)
            self.assertEqual(found, sorted(set(found)))
            for turn in found:
                self.assertEqual(turned(trade, turn), found)
                self.assertEqual(least(trade, turn), turn)
                self.assertIn(least(trade, turn[1:] + turn[:1]), found)
                self.assertIs(are_turned(trade, turn, plain.shuffled(source, trade, row)), True)

    def test_other_letters_never_come(self):
        self.assertIs(are_turned(TOLD, (0, 1), (0, 1, 1)), False)
        self.assertIs(are_turned(TOLD, (0, 1), (0, 2)), False)

    def test_the_other_row_need_not_be_the_least(self):
        self.assertIs(are_turned(TOLD, (0, 2, 1), (1, 2, 0)), True)
        self.assertIs(are_turned(TOLD, (0, 2, 1), (2, 1, 0)), True)

    def test_too_long(self):
        for length in (9, 10, 20):
            row = (0, 1) * 10
            self.assertIs(type(raised(turned, TOLD, row[:length])), TooLong)
            self.assertIs(type(raised(are_turned, TOLD, row[:length], (0,))), TooLong)
            self.assertIs(type(raised(are_turned, TOLD, (0,), row[:length])), TooLong)
        self.assertIs(type(raised(turned, TOLD, (0,) * 21)), BadRow)

    def test_too_long_behind_wrong_rows(self):
        for wrong in ((3,), [0], None, (0,) * 21):
            self.assertIs(type(raised(are_turned, TOLD, (0,) * 9, wrong)), BadRow)
            self.assertIs(type(raised(are_turned, TOLD, wrong, (0,) * 9)), BadRow)
        self.assertIs(type(raised(are_turned, None, (0,) * 9, (0,) * 9)), BadTrade)
        self.assertIs(type(raised(turned, None, (0,) * 9)), BadTrade)


if __name__ == "__main__":
    unittest.main()
