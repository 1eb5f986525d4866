"""Ends of rows, their beginnings counted, and two rows that are each cut twice."""

from placetrade.beginnings import divide, left_behind
from placetrade.errors import BadLength, TooLong
from placetrade.rows import MOST_IN_ROW, check_row, check_rows, find_bar, first_letters, least_of, without
from placetrade.trades import bars_of, check_trade, is_whole

MOST_TO_LIST = 8


def rest_ahead(trade, one, row):
    """The least row that makes a row alike to row if put ahead of one, or None."""
    check_rows(trade, one, row)
    bars = bars_of(trade)
    # An end is a beginning of the row that is read from its last letter on.
    left = left_behind(bars, one[::-1], row[::-1])
    if left is None:
        return None
    return least_of(bars, left[::-1])


def common_end(trade, one, other):
    """The least row of the greatest end that two rows have in common."""
    check_rows(trade, one, other)
    bars = bars_of(trade)
    both = divide(bars, one[::-1], other[::-1])[0]
    return least_of(bars, both[::-1])


def beginnings(trade, row):
    """The least rows, ascending, of all beginnings of a row."""
    check_trade(trade)
    check_row(trade, row)
    if len(row) > MOST_TO_LIST:
        raise TooLong()
    bars = bars_of(trade)
    found = []
    cuts = {row: ()}
    while cuts:
        found.extend([least_of(bars, start) for start in cuts.values()])
        cuts = cut_further(bars, cuts)
    return sorted(found)


def count_beginnings(trade, row, length):
    """How many unlike beginnings of a row have so many letters."""
    check_trade(trade)
    check_row(trade, row)
    if not is_whole(length, 0, MOST_IN_ROW):
        raise BadLength()
    bars = bars_of(trade)
    cuts = {row: ()}
    for _ in range(length):
        cuts = cut_further(bars, cuts)
    return len(cuts)


def cut_further(bars, cuts):
    """All beginnings with one letter more, each by what is left behind it."""
    # Of one letter the same ones are left, whatever way led there: what is
    # left is the same row just if the beginnings are alike.
    found = {}
    for left, start in cuts.items():
        for letter, place in first_letters(bars, left):
            found[without(left, place)] = start + (letter,)
    return found


def crossed(trade, first, second, third, fourth):
    """The four parts in which two rows that are each cut once agree, or None."""
    check_rows(trade, first, second)
    check_row(trade, third)
    check_row(trade, fourth)
    if find_bar(trade, first + second, third + fourth) is not None:
        return None
    bars = bars_of(trade)
    both, mine, its = divide(bars, first, third)
    last = left_behind(bars, its, second)
    return tuple([least_of(bars, row) for row in (both, mine, its, last)])
