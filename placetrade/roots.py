"""The parts of a row that hang together, powers of rows and their roots."""

from placetrade.errors import BadNumber, TooLong
from placetrade.rows import MOST_IN_ROW, check_row, find_bar, least_of
from placetrade.trades import bars_of, check_trade, is_whole

MOST_TIMES = 20


def parts(trade, row):
    """The least rows, ascending, of all letters of a row that hang together."""
    check_trade(trade)
    check_row(trade, row)
    bars = bars_of(trade)
    return sorted([least_of(bars, choose(row, bits)) for bits in hang(bars, row)])


def hang(bars, row):
    """For each part of a row an integer whose bits are the letters in it."""
    found = []
    for letter in row:
        joined = 1 << letter
        others = []
        for bits in found:
            if (bits & bars[letter]) == 0:
                others.append(bits)
            else:
                joined = joined | bits
        found = others + [joined]
    return found


def choose(row, bits):
    """The letters of a row that are among these bits, as they stand in it."""
    return tuple([letter for letter in row if (bits >> letter) & 1 == 1])


def power(trade, row, many):
    """The least row alike to a row that is put one behind the other so many times."""
    check_trade(trade)
    check_row(trade, row)
    if not is_whole(many, 0, MOST_TIMES):
        raise BadNumber()
    if len(row) * many > MOST_IN_ROW:
        raise TooLong()
    return least_of(bars_of(trade), row * many)


def root(trade, row):
    """The least row of which a row is the greatest power, and how great it is."""
    check_trade(trade)
    check_row(trade, row)
    for many in range(len(row), 1, -1):
        start = first_share(row, many)
        if find_bar(trade, start * many, row) is None:
            return (least_of(bars_of(trade), start), many)
    return (least_of(bars_of(trade), row), 1)


def first_share(row, many):
    """The only row of which a row can be this power."""
    # A root is a beginning, and of beginnings with so many of each letter
    # there is at most one: that of the first ones of each.
    share = []
    for letter in row:
        if share.count(letter) < row.count(letter) // many:
            share.append(letter)
    return tuple(share)
