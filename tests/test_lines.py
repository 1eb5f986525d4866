"""Point 9: a line."""

import random
import unittest
from itertools import product
from math import factorial

from placetrade.errors import BadLetter, BadPlace, BadTrade, Full
from placetrade.lines import Line
from placetrade.trades import Trade
from tests import plain
from tests.values import any_values, history, is_integer, line_of, raised

TOLD = Trade(3, ((0, 1), (1, 2)))
NONE_MAY = Trade(6, ())
ALL_MAY = plain.all_trades(6)[-1]
FULL = (0, 1, 2, 1) * 5


def places_of(trade, row):
    """All places of a row at which a change can be made."""
    return [place for place in range(len(row) - 1) if plain.may(trade, row, place)]


class Deeds(unittest.TestCase):
    """A line and all rows that it has stood as, held against each other."""

    def hold(self, trade, line, rows):
        self.assertEqual(line.row, rows[-1], (trade.pairs, rows))
        self.assertEqual(line.least, plain.least(trade, rows[-1]), (trade.pairs, rows))
        self.assertEqual(len(line), len(rows[-1]), (trade.pairs, rows))
        self.assertEqual(history(line), rows[::-1], (trade.pairs, rows))

    def do(self, trade, line, rows, deed, worth):
        """Do a deed, and tell what rows the line has to have stood as behind it."""
        told = (trade.pairs, rows, deed, worth)
        if deed == "add":
            then = rows[-1] + (worth,)
            self.assertEqual(line.add(worth), len(plain.distances(trade, then)), told)
            return [*rows, then]
        if deed == "swap" and worth in places_of(trade, rows[-1]):
            then = plain.change(rows[-1], worth)
            self.assertEqual(line.swap(worth), then[worth:worth + 2], told)
            return [*rows, then]
        if deed == "swap":
            self.assertIs(type(raised(line.swap, worth)), BadPlace, told)
            return rows
        self.assertIs(line.undo(), len(rows) > 1, told)
        return rows[:-1] or rows

    def test_all_ways_to_lead_a_short_line(self):
        deeds = [("add", 0), ("add", 1), ("swap", 0), ("swap", 1), ("undo", None)]
        for trade in plain.all_trades(2):
            for some in product(deeds, repeat=5):
                line, rows = Line(trade), [()]
                for deed, worth in some:
                    rows = self.do(trade, line, rows, deed, worth)
                self.hold(trade, line, rows)

    def test_random_deeds(self):
        source = random.Random(41)
        for letters in (1, 2, 3, 4, 6):
            for trade in source.choices(plain.all_trades(letters), k=12):
                line, rows = Line(trade), [()]
                self.hold(trade, line, rows)
                for _ in range(30):
                    rows = self.do(trade, line, rows, *self.choose(source, trade, rows[-1]))
                    self.hold(trade, line, rows)

    def choose(self, source, trade, row):
        deed = source.choice(["add", "add", "swap", "swap", "undo"])
        if deed == "add" and len(row) < 6:
            return ("add", source.randrange(trade.letters))
        if deed == "swap" and places_of(trade, row):
            return ("swap", source.choice([*places_of(trade, row) * 2, *range(-1, len(row))]))
        return ("undo", None)

    def test_random_deeds_of_copies(self):
        source = random.Random(42)
        for trade in (TOLD, plain.all_trades(3)[-1], plain.all_trades(4)[17]):
            for _ in range(5):
                held = [(Line(trade), [()])]
                for _ in range(40):
                    at = source.randrange(len(held))
                    line, rows = held[at]
                    held[at] = (line, self.do(trade, line, rows, *self.choose(source, trade, rows[-1])))
                    if len(held) < 5 and source.random() < 0.2:
                        held.append((line.copy(), held[at][1]))
                    for line, rows in held:
                        self.hold(trade, line, rows)


class Edges(unittest.TestCase):
    def stands(self, line, row):
        self.assertEqual((line.row, len(line)), (row, len(row)))

    def test_without_letters(self):
        for trade in (Trade(1, ()), TOLD, NONE_MAY, ALL_MAY):
            line = Line(trade)
            self.assertEqual((line.row, line.least, len(line)), ((), (), 0))
            self.assertIs(line.undo(), False)
            for place in (-1, 0, 1):
                self.assertIs(type(raised(line.swap, place)), BadPlace)
            self.assertEqual(history(line), [()])

    def test_kinds_of_answers(self):
        line = Line(TOLD)
        self.assertIs(type(line.add(1)), int)
        line.add(0)
        self.assertIs(type(line.swap(0)), tuple)
        self.assertIs(type(line.row), tuple)
        self.assertIs(type(line.least), tuple)
        self.assertIs(line.undo(), True)
        self.assertIs(type(line.copy()), Line)

    def test_20_letters_and_one_more(self):
        for trade, letter in product((TOLD, NONE_MAY, ALL_MAY), (0, 1, 2)):
            line = line_of(trade, FULL)
            self.stands(line, FULL)
            self.assertIs(type(raised(line.add, letter)), Full)
            self.stands(line, FULL)
            self.assertEqual(len(history(line)), 21)
            self.assertIs(line.undo(), True)
            self.stands(line, FULL[:19])
            line.add(letter)
            self.stands(line, FULL[:19] + (letter,))
            self.assertIs(type(raised(line.add, letter)), Full)

    def test_a_wrong_letter_is_told_ahead_of_a_full_line(self):
        line = line_of(TOLD, FULL)
        for letter in (3, -1, True, None):
            self.assertIs(type(raised(line.add, letter)), BadLetter)

    def test_numbers_of_long_rows(self):
        row = (5, 4, 3, 2, 1, 0) * 3 + (1, 0)
        self.assertEqual(line_of(ALL_MAY, row[:19]).add(0), factorial(20) // (factorial(4) ** 2 * factorial(3) ** 4))
        self.assertEqual(line_of(ALL_MAY, row).least, tuple(sorted(row)))
        self.assertEqual(line_of(NONE_MAY, row[:19]).add(0), 1)
        self.assertEqual(line_of(NONE_MAY, row).least, row)
        self.assertEqual(line_of(Trade(1, ()), (0,) * 19).add(0), 1)

    def test_changes_of_a_full_line(self):
        line = line_of(TOLD, FULL)
        self.assertEqual(line.swap(18), (1, 2))
        self.assertEqual(line.swap(0), (1, 0))
        self.stands(line, (1, 0) + FULL[2:18] + (1, 2))
        self.assertIs(type(raised(line.swap, 19)), BadPlace)
        self.assertIs(line.undo(), True)
        self.stands(line, FULL[:18] + (1, 2))

    def test_the_same_change_again(self):
        line = line_of(TOLD, (0, 1))
        self.assertEqual([line.swap(0), line.swap(0), line.swap(0)], [(1, 0), (0, 1), (1, 0)])
        self.assertEqual(history(line), [(1, 0), (0, 1), (1, 0), (0, 1), (0,), ()])

    def test_nothing_left_to_take_back(self):
        line = line_of(TOLD, (0, 1))
        line.swap(0)
        self.assertEqual([line.undo() for _ in range(6)], [True, True, True, False, False, False])
        self.stands(line, ())
        self.assertEqual(line.add(2), 1)
        self.assertEqual([line.undo(), line.undo()], [True, False])

    def test_whichever_was_later(self):
        line = line_of(TOLD, (0, 1))
        line.swap(0)
        line.add(2)
        seen = []
        while line.undo():
            seen.append(line.row)
        self.assertEqual(seen, [(1, 0), (0, 1), (0,), ()])

    def test_many_deeds_are_taken_back(self):
        line = line_of(TOLD, (0, 1))
        for _ in range(300):
            line.swap(0)
        self.assertEqual(sum(line.undo() for _ in range(310)), 302)

    def test_a_copy_takes_back_its_own_last_deed(self):
        line = line_of(TOLD, (0, 1))
        other = line.copy()
        self.assertIsNot(other, line)
        other.swap(0)
        line.add(2)
        self.assertEqual((line.row, other.row), ((0, 1, 2), (1, 0)))
        self.assertIs(other.undo(), True)
        self.assertEqual((line.row, other.row), ((0, 1, 2), (0, 1)))
        self.assertEqual([other.undo(), other.undo(), other.undo()], [True, True, False])
        self.assertEqual((line.row, other.row), ((0, 1, 2), ()))
        self.assertEqual(history(line), [(0, 1, 2), (0, 1), (0,), ()])
        self.assertEqual([line.undo() for _ in range(4)], [True, True, True, False])

    def test_a_copy_of_a_line_without_letters(self):
        line = Line(TOLD)
        other = line.copy()
        self.assertIs(other.undo(), False)
        other.add(1)
        self.assertEqual((line.row, other.row, line.undo()), ((), (1,), False))

    def test_a_copy_has_the_same_trade(self):
        other = line_of(TOLD, (0, 1)).copy()
        self.assertEqual([other.swap(0), other.add(2), other.least], [(1, 0), 3, (0, 1, 2)])
        self.assertIs(type(raised(other.add, 3)), BadLetter)

    def test_lines_of_one_trade_are_independent(self):
        one, other = Line(TOLD), Line(TOLD)
        one.add(0)
        self.assertEqual((one.row, other.row, other.undo()), ((0,), (), False))


class WrongInputs(unittest.TestCase):
    def hold_still(self, line, called, value, error):
        """A wrong call raises its error, and leaves the line as it was."""
        ahead = (line.row, line.least, len(line), history(line))
        self.assertIs(type(raised(called, value)), error, repr(value))
        self.assertEqual((line.row, line.least, len(line), history(line)), ahead)

    def lines(self, trade, rows):
        """Lines that stand as these rows, some behind a change, some behind undo."""
        for row in rows:
            line = line_of(trade, row)
            yield line
            for place in places_of(trade, row)[:1]:
                line.swap(place)
                yield line
                line.undo()
                yield line

    def test_any_value_as_a_trade(self):
        for value in any_values():
            if isinstance(value, Trade):
                self.assertEqual(Line(value).row, ())
            else:
                self.assertIs(type(raised(Line, value)), BadTrade, repr(value))

    def test_any_value_as_a_letter(self):
        for letters in (1, 2, 3, 6):
            for line in self.lines(Trade(letters, ()), [(), (0,), (0,) * 19, (0,) * 20]):
                for value in [*any_values(), 3, 5, 6]:
                    if not is_integer(value) or not 0 <= value < letters:
                        self.hold_still(line, line.add, value, BadLetter)

    def test_any_value_as_a_place(self):
        for line in self.lines(TOLD, [(), (1,), (0, 1), (0, 1, 2, 0), FULL]):
            right = places_of(TOLD, line.row)
            for value in [*any_values(), *range(-21, 22)]:
                if is_integer(value) and value in right:
                    self.assertIsNone(raised(line.swap, value), repr(value))
                    self.assertIs(line.undo(), True)
                else:
                    self.hold_still(line, line.swap, value, BadPlace)

    def test_letters_that_may_not_change_places(self):
        line = line_of(TOLD, (0, 2, 2, 1, 0))
        for place in (0, 1, 4):
            self.hold_still(line, line.swap, place, BadPlace)
        for trade in (NONE_MAY, Trade(1, ()), ALL_MAY):
            line = line_of(trade, (0, 0))
            self.hold_still(line, line.swap, 0, BadPlace)

    def test_full(self):
        for line in self.lines(TOLD, [FULL, FULL[::-1]]):
            for letter in (0, 1, 2):
                self.hold_still(line, line.add, letter, Full)

    def test_a_wrong_call_is_no_deed(self):
        line = line_of(TOLD, (0,))
        for called, value in ((line.add, 3), (line.swap, 0), (line.add, True), (line.swap, None)):
            self.assertIsNotNone(raised(called, value))
        self.assertEqual([line.undo(), line.undo()], [True, False])


class Alone(unittest.TestCase):
    def test_the_trade_is_not_changed(self):
        told = Trade(3, ((0, 1), (1, 2)))
        line = line_of(told, (0, 1, 2))
        line.swap(0)
        line.undo()
        self.assertEqual((told.letters, told.pairs, told), (3, ((0, 1), (1, 2)), TOLD))

    def test_what_is_read_changes_nothing(self):
        line = line_of(TOLD, (1, 0, 2))
        for _ in range(3):
            self.assertEqual((line.row, line.least, len(line)), ((1, 0, 2), (0, 1, 2), 3))
        self.assertEqual(history(line), [(1, 0, 2), (1, 0), (1,), ()])

    def test_equal_calls_give_equal_results(self):
        for _ in range(2):
            line = Line(Trade(3, ((0, 1), (1, 2))))
            self.assertEqual([line.add(1), line.add(0), line.add(2), line.swap(0)], [1, 2, 3, (0, 1)])

    def test_equal_to_nothing_of_another_kind(self):
        line = line_of(TOLD, (0, 1))
        for value in [*any_values(), (0, 1), [0, 1], 2, TOLD]:
            if not isinstance(value, Line):
                self.assertFalse(line == value, repr(value))
                self.assertFalse(value == line, repr(value))
                self.assertTrue(line != value, repr(value))


if __name__ == "__main__":
    unittest.main()
