"""Point 8: which pairs may change places, by what is known of rows."""

import random
import unittest
from itertools import product

from placetrade.errors import BadFacts, BadLetters
from placetrade.known import trades_by
from placetrade.trades import Trade
from tests import plain
from tests.values import any_values, is_integer, is_row, raised

WORDS = ("alike", "unlike")
FACT = ((0, 1), (1, 0), "alike")


def in_order(letters):
    """All trades with so many letters, by their pairs ascending."""
    return sorted(plain.all_trades(letters), key=lambda trade: trade.pairs)


class PlainSearch(unittest.TestCase):
    def near(self, letters, rows):
        """For each trade what changes lead to from each row."""
        return [(trade, {row: plain.distances(trade, row) for row in rows}) for trade in in_order(letters)]

    def hold(self, letters, facts, near):
        expected = []
        for trade, leads in near:
            if all((other in leads[one]) == (word == "alike") for one, other, word in facts):
                expected.append(trade)
        self.assertEqual(trades_by(letters, facts), expected, (letters, facts))

    def test_each_fact_of_short_rows(self):
        for letters, longest in ((1, 4), (2, 4), (3, 3), (4, 2)):
            rows = plain.rows_up_to(letters, longest)
            near = self.near(letters, rows)
            for one, other in product(rows, repeat=2):
                for word in WORDS if len(one) == len(other) else WORDS[1:]:
                    self.hold(letters, ((one, other, word),), near)

    def test_many_facts(self):
        source = random.Random(31)
        for letters in (1, 2, 3, 4):
            for size in (1, 2, 3, 5, 20):
                for _ in range(8):
                    rows = [tuple(source.choices(range(letters), k=source.randint(2, 6))) for _ in range(size)]
                    others = [tuple(source.sample(row, len(row))) for row in rows]
                    facts = [(one, other, source.choice(WORDS)) for one, other in zip(rows, others)]
                    self.hold(letters, tuple(facts), self.near(letters, rows))

    def test_facts_that_hold_for_one_trade_at_least(self):
        source = random.Random(32)
        for letters in (2, 3, 4):
            for trade in plain.all_trades(letters):
                facts = []
                for _ in range(6):
                    one = tuple(source.choices(range(letters), k=source.randint(2, 5)))
                    other = source.choice([plain.shuffled(source, trade, one), tuple(source.sample(one, len(one)))])
                    facts.append((one, other, WORDS[other not in plain.distances(trade, one)]))
                self.assertIn(trade, trades_by(letters, tuple(facts)))
                self.hold(letters, tuple(facts), self.near(letters, [one for one, _, _ in facts]))


class Edges(unittest.TestCase):
    def test_no_facts(self):
        for letters, many in ((1, 1), (2, 2), (3, 8), (4, 64)):
            found = trades_by(letters, ())
            self.assertEqual(found, in_order(letters))
            self.assertEqual(len(found), many)
            self.assertTrue(all(type(trade) is Trade for trade in found))

    def test_by_their_pairs_ascending(self):
        self.assertEqual([trade.pairs for trade in trades_by(3, ())], [
            (), ((0, 1),), ((0, 1), (0, 2)), ((0, 1), (0, 2), (1, 2)), ((0, 1), (1, 2)),
            ((0, 2),), ((0, 2), (1, 2)), ((1, 2),),
        ])

    def test_facts_that_no_trade_keeps(self):
        for letters in (1, 2, 3, 4):
            self.assertEqual(trades_by(letters, (((0,), (0, 0), "alike"),)), [])
            self.assertEqual(trades_by(letters, (((0,), (0,), "unlike"),)), [])
            self.assertEqual(trades_by(letters, (((), (), "unlike"),)), [])
        self.assertEqual(trades_by(2, (FACT, ((0, 1), (1, 0), "unlike"))), [])

    def test_facts_that_all_trades_keep(self):
        for letters in (1, 2, 3, 4):
            facts = (((), (), "alike"), ((0,), (0,), "alike"), ((0,), (), "unlike"))
            self.assertEqual(trades_by(letters, facts), in_order(letters))

    def test_all_pairs_and_none(self):
        every = ((0, 1, 2, 3) * 5, (0,) * 5 + (1,) * 5 + (2,) * 5 + (3,) * 5)
        self.assertEqual(trades_by(4, ((*every, "alike"),)), [plain.all_trades(4)[-1]])
        none = [((low, high), (high, low), "unlike") for high in range(4) for low in range(high)]
        self.assertEqual(trades_by(4, tuple(none)), [Trade(4, ())])

    def test_20_and_21_facts(self):
        self.assertEqual(trades_by(2, (FACT,) * 20), [Trade(2, ((0, 1),))])
        last = (*[FACT] * 19, ((0, 1, 0), (0, 0, 1), "unlike"))
        self.assertEqual(trades_by(2, last), [])
        error = raised(trades_by, 2, (FACT,) * 21)
        self.assertIs(type(error), BadFacts)
        self.assertIsNone(error.index)

    def test_the_list_and_its_trades_are_new(self):
        first, other = trades_by(3, ()), trades_by(3, ())
        self.assertIsNot(first, other)
        self.assertEqual(first, other)
        first.clear()
        self.assertEqual(trades_by(3, ()), other)


class WrongLetters(unittest.TestCase):
    def test_any_value(self):
        for value in [*any_values(), 3, 4, 5, 6]:
            error = raised(trades_by, value, ())
            if is_integer(value) and 1 <= value <= 4:
                self.assertIsNone(error, repr(value))
            else:
                self.assertIs(type(error), BadLetters, repr(value))

    def test_ahead_of_facts(self):
        for letters in (0, 5, True, None, (3,)):
            for facts in (None, [], (None,), (FACT,) * 21):
                self.assertIs(type(raised(trades_by, letters, facts)), BadLetters)


class WrongFacts(unittest.TestCase):
    def index_told(self, letters, facts):
        error = raised(trades_by, letters, facts)
        self.assertIs(type(error), BadFacts, repr(facts))
        return error.index

    def test_no_tuple(self):
        for value in any_values():
            if not isinstance(value, tuple):
                self.assertIsNone(self.index_told(3, value), repr(value))
        self.assertIsNone(self.index_told(3, [FACT]))

    def test_more_than_20_things(self):
        for facts in ((None,) * 21, (FACT,) * 21, (None,) + (FACT,) * 20, (FACT,) * 40):
            self.assertIsNone(self.index_told(3, facts))

    def test_any_value_as_a_fact(self):
        for value in any_values():
            self.assertEqual(self.index_told(2, (value,)), 0, repr(value))
            self.assertEqual(self.index_told(2, (FACT, FACT, value, None)), 2, repr(value))
            self.assertEqual(self.index_told(2, (*[FACT] * 19, value)), 19, repr(value))

    def test_any_value_as_a_row(self):
        for value in any_values():
            for fact in ((value, (0,), "unlike"), ((0, 0, 0), value, "unlike")):
                if is_row(value, 2):
                    error = raised(trades_by, 2, (FACT, fact))
                    self.assertIsNone(error, repr(value))
                else:
                    self.assertEqual(self.index_told(2, (FACT, fact)), 1, repr(value))

    def test_any_value_as_a_word(self):
        for value in [*any_values(), "Alike", "alike ", "like", "un", ("alike",), ["unlike"], {"alike": "alike"}]:
            self.assertEqual(self.index_told(2, (FACT, ((0,), (0,), value))), 1, repr(value))

    def test_no_three_things(self):
        for thing in (((0, 1), (1, 0)), (*FACT, "alike"), list(FACT), FACT[1:], (FACT,)):
            self.assertEqual(self.index_told(2, (FACT, thing)), 1, repr(thing))

    def test_letters_that_are_not_below_letters(self):
        for letters in (1, 2, 3, 4):
            self.assertIsNone(raised(trades_by, letters, (((letters - 1,), (), "unlike"),)))
            self.assertEqual(self.index_told(letters, (((letters,), (), "unlike"),)), 0)
            self.assertEqual(self.index_told(letters, (((), (0, letters), "unlike"),)), 0)

    def test_rows_of_20_and_21_letters(self):
        self.assertIsNone(raised(trades_by, 2, (((0,) * 20, (0,) * 20, "alike"),)))
        self.assertEqual(self.index_told(2, (((0,) * 21, (0,) * 21, "alike"),)), 0)
        self.assertEqual(self.index_told(2, (FACT, ((0,) * 20, (0,) * 21, "unlike"))), 1)

    def test_the_first_wrong_thing_is_told(self):
        self.assertEqual(self.index_told(2, (FACT, None, FACT, None)), 1)
        self.assertEqual(self.index_told(2, (((0, 2), (0, 2), "alike"), None)), 0)


if __name__ == "__main__":
    unittest.main()
