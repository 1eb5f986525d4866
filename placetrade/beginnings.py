"""Beginnings of rows, what two of them have in common, and rows that are turned.

The functions that take bars instead of a trade check nothing, and take rows
of any length.
"""

from placetrade.errors import TooLong
from placetrade.rows import check_row, check_rows, find_bar, first_letters, least_of, without
from placetrade.trades import all_may_change, bars_of, check_trade

MOST_TO_TURN = 8


def rest(trade, one, row):
    """The least row that makes a row alike to row if put behind one, or None."""
    check_rows(trade, one, row)
    bars = bars_of(trade)
    left = left_behind(bars, one, row)
    if left is None:
        return None
    return least_of(bars, left)


def left_behind(bars, one, row):
    """What is left of a row behind its beginning one, None if it is no such."""
    left = row
    for letter in one:
        places = dict(first_letters(bars, left))
        if letter not in places:
            return None
        left = without(left, places[letter])
    return left


def common(trade, one, other):
    """The least row of the greatest beginning that two rows have in common."""
    check_rows(trade, one, other)
    bars = bars_of(trade)
    return least_of(bars, divide(bars, one, other)[0])


def divide(bars, one, other):
    """The greatest beginning that two rows have in common, and what each has behind it."""
    # A letter that can come first in both stands in the greatest one in any
    # case, so that no choice that is made here has to be taken back.
    both = ()
    mine = one
    its = other
    first = first_in_both(bars, mine, its)
    while first:
        both = both + first
        mine = left_behind(bars, first, mine)
        its = left_behind(bars, first, its)
        first = first_in_both(bars, mine, its)
    return (both, mine, its)


def first_in_both(bars, one, other):
    """The letters that can come to the first place in both of two rows."""
    its = dict(first_letters(bars, other))
    return tuple([letter for letter, _ in first_letters(bars, one) if letter in its])


def together(trade, one, other):
    """The least of the shortest rows that begin with both rows, or None."""
    check_rows(trade, one, other)
    bars = bars_of(trade)
    both, mine, its = divide(bars, one, other)
    if not all_may_change(bars, mine, its):
        return None
    return least_of(bars, both + mine + its)


def either_way(trade, one, other):
    """Tell whether two rows, one behind the other, are alike either way."""
    check_rows(trade, one, other)
    return find_bar(trade, one + other, other + one) is None


def turned(trade, row):
    """The least rows of all that come of a row if first letters go to its end."""
    check_trade(trade)
    check_row(trade, row)
    check_turning(row)
    return all_turned(bars_of(trade), row)


def are_turned(trade, one, other):
    """Tell whether the other row comes of one if first letters go to its end."""
    check_rows(trade, one, other)
    check_turning(one)
    check_turning(other)
    bars = bars_of(trade)
    return least_of(bars, other) in all_turned(bars, one)


def check_turning(row):
    """Raise TooLong for a row that has too many letters to be turned."""
    if len(row) > MOST_TO_TURN:
        raise TooLong()


def all_turned(bars, row):
    """The least rows, ascending, of all that come of a row by turning it."""
    start = least_of(bars, row)
    found = {start: True}
    waiting = [start]
    while waiting:
        now = waiting.pop()
        for letter, place in first_letters(bars, now):
            turn = least_of(bars, without(now, place) + (letter,))
            if turn not in found:
                found[turn] = True
                waiting.append(turn)
    return sorted(found)
