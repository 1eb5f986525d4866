"""One right call of each function, and what its arguments have to be."""

from collections import namedtuple

from placetrade import errors
from placetrade.beginnings import are_turned, common, either_way, rest, together, turned
from placetrade.counts import groups, how_many, how_many_by
from placetrade.ends import beginnings, common_end, count_beginnings, crossed, rest_ahead
from placetrade.known import trades_by
from placetrade.listing import how_many_with, least_with, next_least, numbered_least, place_of
from placetrade.roots import parts, power, root
from placetrade.rows import alike, bar, changes, least, many, number_of, numbered, steps
from placetrade.texts import read_row, write_row
from placetrade.trades import Trade
from tests.values import any_texts, any_values, is_integer, is_row

# An argument: the error for a wrong value, a function that tells a right one,
# the number next above the right ones, and what gives the values to pass.
Kind = namedtuple("Kind", "error is_right beyond values", defaults=(None, any_values))
# A call: the function, arguments that are right, their kinds, the answer, and
# how many letters a row may have there.
Call = namedtuple("Call", "function right kinds answer longest", defaults=(20,))

TOLD = Trade(3, ((0, 1), (1, 2)))
ROW = (1, 0, 2)


def whole(error, low, high):
    """The kind of integers from low to high."""
    return Kind(error, lambda value: is_integer(value) and low <= value <= high, high + 1)


def is_fact(value):
    """Tell whether a value is what is known of two rows of two letters."""
    if not isinstance(value, tuple) or len(value) != 3:
        return False
    return is_row(value[0], 2) and is_row(value[1], 2) and value[2] in ("alike", "unlike")


def is_facts(value):
    """Tell whether a value is a tuple of at most 20 facts."""
    return isinstance(value, tuple) and len(value) <= 20 and all(map(is_fact, value))


def is_counts(value):
    """Tell whether a value tells how often each of three letters stands."""
    if not isinstance(value, tuple) or len(value) != 3 or not all(map(is_integer, value)):
        return False
    return min(value) >= 0 and max(value) <= 12 and sum(value) <= 40


A_TRADE = Kind(errors.BadTrade, lambda value: isinstance(value, Trade))
A_ROW = Kind(errors.BadRow, lambda value: is_row(value, 3))
FACTS = Kind(errors.BadFacts, is_facts)
COUNTS = Kind(errors.BadCounts, is_counts)
A_TEXT = Kind(errors.InvalidText, lambda value: value == "", values=any_texts)
ONE_ROW = (A_TRADE, A_ROW)
TWO_ROWS = (A_TRADE, A_ROW, A_ROW)

CALLS = [
    Call(alike, (TOLD, ROW, (0, 2, 1)), TWO_ROWS, True),
    Call(bar, (TOLD, ROW, (2, 0, 1)), TWO_ROWS, ("pair", 0, 2, 0)),
    Call(changes, (TOLD, ROW, (0, 2, 1)), TWO_ROWS, (0, 1)),
    Call(least, (TOLD, ROW), ONE_ROW, (0, 1, 2)),
    Call(steps, (TOLD, ROW), ONE_ROW, ((0, 1), (2,))),
    Call(many, (TOLD, ROW), ONE_ROW, 3),
    Call(number_of, (TOLD, ROW), ONE_ROW, 2),
    Call(numbered, (TOLD, ROW, 0), (*ONE_ROW, whole(errors.BadNumber, 0, 2)), (0, 1, 2)),
    Call(rest, (TOLD, (1,), ROW), TWO_ROWS, (0, 2)),
    Call(common, (TOLD, (0, 1), ROW), TWO_ROWS, (0, 1)),
    Call(together, (TOLD, (1, 1), ROW), TWO_ROWS, (0, 1, 1, 2)),
    Call(either_way, (TOLD, (1, 1), ROW), TWO_ROWS, True),
    Call(turned, (TOLD, ROW), ONE_ROW, [(0, 1, 2), (1, 2, 0)], 8),
    Call(are_turned, (TOLD, (2, 1, 0), ROW), TWO_ROWS, True, 8),
    Call(rest_ahead, (TOLD, (1,), ROW), TWO_ROWS, (0, 2)),
    Call(common_end, (TOLD, (2, 1), ROW), TWO_ROWS, (1, 2)),
    Call(beginnings, (TOLD, ROW), ONE_ROW, [(), (0,), (0, 1), (0, 1, 2), (0, 2), (1,)], 8),
    Call(count_beginnings, (TOLD, ROW, 2), (*ONE_ROW, whole(errors.BadLength, 0, 20)), 2),
    Call(crossed, (TOLD, ROW, (1,), (1, 1), (0, 2)), (*TWO_ROWS, A_ROW, A_ROW), ((1,), (0, 2), (1,), ())),
    Call(parts, (TOLD, ROW), ONE_ROW, [(0, 2), (1,)]),
    Call(power, (TOLD, (1, 0), 2), (*ONE_ROW, whole(errors.BadNumber, 0, 20)), (0, 0, 1, 1), 10),
    Call(root, (TOLD, ROW), ONE_ROW, ((0, 1, 2), 1)),
    Call(groups, (TOLD,), (A_TRADE,), [(), (0,), (0, 1), (1,), (1, 2), (2,)]),
    Call(how_many, (TOLD, 3), (A_TRADE, whole(errors.BadLength, 0, 500)), 15),
    Call(
        how_many_by, (TOLD, 3, 7),
        (A_TRADE, whole(errors.BadLength, 0, 10 ** 30), whole(errors.BadModulus, 1, 10 ** 9)), 1,
    ),
    Call(how_many_with, (TOLD, (1, 1, 1)), (A_TRADE, COUNTS), 2),
    Call(least_with, (TOLD, (1, 2, 1)), (A_TRADE, COUNTS), (0, 1, 1, 2)),
    Call(
        numbered_least, (TOLD, 3, 0),
        (A_TRADE, whole(errors.BadLength, 0, 60), whole(errors.BadNumber, 0, 14)), (0, 0, 0),
    ),
    Call(place_of, (TOLD, ROW), ONE_ROW, 4),
    Call(next_least, (TOLD, ROW), ONE_ROW, (0, 2, 0)),
    Call(
        trades_by, (2, (((0,), (0,), "alike"), ((0,), (0, 0), "unlike"))),
        (whole(errors.BadLetters, 1, 4), FACTS), [Trade(2, ()), Trade(2, ((0, 1),))],
    ),
    Call(write_row, (TOLD, ROW), ONE_ROW, "(ab)(c)"),
    Call(read_row, (TOLD, "(bc)(a)"), (A_TRADE, A_TEXT), (1, 2, 0)),
]


def with_argument(call, place, value):
    """The right arguments of a call, with another value at a place."""
    return (*call.right[:place], value, *call.right[place + 1:])


def with_rows(call, row):
    """The right arguments of a call, with another row wherever a row stands."""
    return [row if kind is A_ROW else value for value, kind in zip(call.right, call.kinds)]
