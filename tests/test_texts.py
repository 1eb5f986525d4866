"""Point 10: rows written as their steps, and read again."""

import random
import unittest
from itertools import product

from placetrade.errors import BadRow, BadTrade, InvalidText
from placetrade.rows import least, steps
from placetrade.texts import read_row, write_row
from placetrade.trades import Trade
from tests import plain
from tests.values import raised

TOLD = Trade(3, ((0, 1), (1, 2)))
NONE_MAY = Trade(6, ())
ALL_MAY = plain.all_trades(6)[-1]
EDGES = (Trade(1, ()), TOLD, NONE_MAY, ALL_MAY)


def written(trade, row):
    """The text of a row, from its steps as a plain search finds them."""
    return "".join("(" + "".join("abcdef"[letter] for letter in step) + ")" for step in plain.steps(trade, row))


def right_texts(trade, longest):
    """All right texts of at most so many letters, each with the least row."""
    found = {}
    for row in plain.rows_up_to(trade.letters, longest):
        found.setdefault(written(trade, row), row)
    return found


def starts_of(texts):
    """All that some text begins with."""
    return {text[:length] for text in texts for length in range(len(text) + 1)}


class PlainSearch(unittest.TestCase):
    def hold(self, trade, text, right, starts):
        """Hold a text against all right ones: it is wrong where none goes on like it."""
        told = (trade.letters, trade.pairs, text)
        error = raised(read_row, trade, text)
        if text in right:
            self.assertIsNone(error, told)
            self.assertEqual(read_row(trade, text), right[text], told)
        else:
            places = [place for place in range(len(text)) if text[:place + 1] not in starts]
            self.assertIs(type(error), InvalidText, told)
            self.assertEqual(error.place, min(places, default=len(text)), told)

    def test_there_and_back(self):
        for letters, longest in ((1, 6), (2, 6), (3, 5), (4, 3)):
            for trade in plain.all_trades(letters):
                for row in plain.rows_up_to(letters, longest):
                    text = written(trade, row)
                    self.assertEqual(write_row(trade, row), text, (trade.pairs, row))
                    self.assertEqual(read_row(trade, text), plain.least(trade, row), (trade.pairs, row))

    def test_all_short_texts(self):
        for letters in (1, 2, 3):
            for trade in plain.all_trades(letters):
                right = right_texts(trade, 5)
                starts = starts_of(right)
                for length in range(7):
                    for signs in product("abc()"[3 - letters:], repeat=length):
                        self.hold(trade, "".join(signs), right, starts)

    def test_one_sign_changed_put_in_or_left_out(self):
        for trade in (Trade(1, ()), *plain.all_trades(2), *plain.all_trades(3)):
            right = right_texts(trade, 6)
            starts = starts_of(right)
            for text in [text for text in right if len(right[text]) <= 4]:
                for place, sign in product(range(len(text) + 1), "abcd()A 0"):
                    self.hold(trade, text[:place] + sign + text[place:], right, starts)
                    self.hold(trade, text[:place] + sign + text[place + 1:], right, starts)
                    self.hold(trade, text[:place] + text[place + 1:], right, starts)

    def test_random_texts_of_more_letters(self):
        source = random.Random(33)
        for letters in (4, 5):
            for trade in source.sample(plain.all_trades(letters), 6):
                right = right_texts(trade, 5)
                starts = starts_of(right)
                for text in source.sample([text for text in right if len(right[text]) <= 4], 40):
                    place = source.randrange(len(text) + 1)
                    sign = source.choice("abcdef()")
                    self.hold(trade, text[:place] + sign + text[place:], right, starts)
                    self.hold(trade, text[:place] + sign + text[place + 1:], right, starts)


class LongRows(unittest.TestCase):
    def test_there_and_back(self):
        source = random.Random(34)
        for letters in (1, 2, 3, 4, 5, 6):
            trades = plain.all_trades(letters)
            for trade in (trades[0], trades[-1], *source.choices(trades, k=8)):
                for length in (0, 1, 7, 13, 19, 20):
                    row = tuple(source.choices(range(letters), k=length))
                    text = write_row(trade, row)
                    self.assertEqual(text.count("("), len(steps(trade, row)))
                    self.assertEqual(len(text), length + 2 * text.count("("))
                    self.assertEqual(read_row(trade, text), least(trade, row))
                    self.assertEqual(write_row(trade, plain.shuffled(source, trade, row)), text)

    def test_none_may(self):
        row = (5, 0, 4, 1) * 5
        self.assertEqual(write_row(NONE_MAY, row), "(f)(a)(e)(b)" * 5)
        self.assertEqual(read_row(NONE_MAY, "(f)(a)(e)(b)" * 5), row)

    def test_all_may(self):
        row = (5, 4, 3, 2, 1, 0) * 3 + (1, 0)
        self.assertEqual(write_row(ALL_MAY, row), "(abcdef)" * 3 + "(ab)")
        self.assertEqual(read_row(ALL_MAY, "(abcdef)" * 3 + "(ab)"), tuple(sorted(row)))

    def test_one_letter(self):
        self.assertEqual(write_row(Trade(1, ()), (0,) * 20), "(a)" * 20)
        self.assertEqual(read_row(Trade(1, ()), "(a)" * 20), (0,) * 20)

    def test_what_the_document_shows(self):
        self.assertEqual(write_row(TOLD, (1, 0, 2)), "(ab)(c)")
        self.assertEqual(write_row(TOLD, (0, 1, 2)), "(ab)(c)")


class WrongTexts(unittest.TestCase):
    def hold(self, trade, text, place):
        error = raised(read_row, trade, text)
        self.assertIs(type(error), InvalidText, (trade.pairs, text))
        self.assertEqual(error.place, place, (trade.pairs, text))
        self.assertEqual(vars(error), {"place": place})

    def test_without_signs(self):
        for trade in EDGES:
            self.assertEqual(read_row(trade, ""), ())
            self.assertEqual(write_row(trade, ()), "")

    def test_where_a_step_must_begin(self):
        for sign in "abcxAZ)[{<09 ,.-_\n\t\\'\u00e9\u0430\uff08\U0001f600":
            for trade in EDGES:
                self.hold(trade, sign, 0)
                self.hold(trade, sign + "(a)", 0)
                self.hold(trade, "(a)" + sign, 3)
                self.hold(trade, "(a)(a)" + sign + "(", 6)

    def test_no_letter_of_the_trade(self):
        for sign in "(xgAZ[]09 ,.\n\t\\'\u00e9\u0430\uff09\U0001f600":
            for trade in EDGES:
                self.hold(trade, "(" + sign, 1)
                self.hold(trade, "(" + sign + ")", 1)
                self.hold(trade, "(a" + sign + ")", 2)
                self.hold(trade, "(a)(" + sign + ")", 4)
        for letters in (1, 2, 3, 4, 5):
            self.assertEqual(read_row(Trade(letters, ()), "(" + "abcdef"[letters - 1] + ")"), (letters - 1,))
            self.hold(Trade(letters, ()), "(" + "abcdef"[letters] + ")", 1)

    def test_not_above_the_one_before(self):
        self.hold(ALL_MAY, "(ba)", 2)
        self.hold(ALL_MAY, "(aa)", 2)
        self.hold(ALL_MAY, "(acfb)", 4)
        self.hold(TOLD, "(b)(ba)", 5)

    def test_may_not_change_places_with_one_before(self):
        self.hold(NONE_MAY, "(ab)", 2)
        self.hold(TOLD, "(ac)", 2)
        self.hold(TOLD, "(abc)", 3)
        self.hold(TOLD, "(bc)(ab)(abc)", 11)
        self.assertEqual(read_row(TOLD, "(bc)(ab)"), (1, 1, 2, 0))

    def test_a_step_without_letters(self):
        for trade in EDGES:
            self.hold(trade, "()", 1)
            self.hold(trade, "(a)()", 4)
            self.hold(trade, "()(a)", 1)
        self.hold(ALL_MAY, "(a)(a)()x", 7)

    def test_what_would_stand_in_the_step_before(self):
        self.hold(TOLD, "(a)(b)", 4)
        self.hold(ALL_MAY, "(ab)(c)", 5)
        self.hold(ALL_MAY, "(ab)(ac)", 6)
        self.hold(ALL_MAY, "(ab)(ab)(b)(a)", 12)
        self.assertEqual(read_row(ALL_MAY, "(abc)(ab)(a)"), (0, 0, 0, 1, 1, 2))
        # One letter of the step before that bars it is enough.
        self.assertEqual(read_row(TOLD, "(ab)(c)"), (0, 1, 2))
        # What barred it further ahead does not.
        self.hold(Trade(3, ((0, 1), (0, 2))), "(ab)(c)(a)", 8)

    def test_within_a_step(self):
        for trade in EDGES:
            for text in ("(", "(a", "(a)(", "(a)(a", "(a)" * 19 + "(a"):
                self.hold(trade, text, len(text))
        self.hold(ALL_MAY, "(abcdef", 7)

    def test_20_letters_and_one_more(self):
        for trade in EDGES:
            self.assertEqual(read_row(trade, "(a)" * 20), (0,) * 20)
            self.hold(trade, "(a)" * 21, 61)
            self.hold(trade, "(a)" * 20 + "(a", 61)
            self.hold(trade, "(a)" * 20 + "(", 61)
            self.hold(trade, "(a)" * 20 + "()", 61)
            self.hold(trade, "(a)" * 20 + "(x)", 61)
            self.hold(trade, "(a)" * 20 + "a", 60)
        self.assertEqual(read_row(ALL_MAY, "(abcde)" * 4), (0,) * 4 + (1,) * 4 + (2,) * 4 + (3,) * 4 + (4,) * 4)
        self.hold(ALL_MAY, "(abcdef)" * 4, 27)
        self.hold(ALL_MAY, "(abcdef)" * 3 + "(abc)", 27)
        self.hold(ALL_MAY, "(abcdef)" * 3 + "(ab", 27)

    def test_the_first_wrong_sign_is_told(self):
        self.hold(TOLD, "(ac)(b)x", 2)
        self.hold(TOLD, "(a)(b)(", 4)
        self.hold(TOLD, "(a)x(", 3)
        self.hold(TOLD, "(a)" * 30 + "x", 61)

    def test_the_trade_ahead_of_the_text(self):
        for value in (None, 3, (3, ()), "(a)"):
            self.assertIs(type(raised(read_row, value, "x")), BadTrade)
            self.assertIs(type(raised(write_row, value, None)), BadTrade)
        self.assertIs(type(raised(write_row, TOLD, "(a)")), BadRow)


if __name__ == "__main__":
    unittest.main()
