"""Rows of letters: which are alike, and the steps and numbers of those alike.

The functions that take bars instead of a trade check nothing, and take rows
of any length.
"""

from placetrade.errors import BadNumber, BadRow
from placetrade.trades import bars_of, check_trade, is_letter, is_whole, may_change

MOST_IN_ROW = 20


def is_row(letters, value):
    """Tell whether a value is a row of so many letters."""
    if not isinstance(value, tuple) or len(value) > MOST_IN_ROW:
        return False
    return all([is_letter(letters, letter) for letter in value])


def check_row(trade, row):
    """Raise BadRow for what is no row of a trade."""
    if not is_row(trade.letters, row):
        raise BadRow()


def check_rows(trade, one, other):
    """Check a trade and two of its rows, from left to right."""
    check_trade(trade)
    check_row(trade, one)
    check_row(trade, other)


def alike(trade, one, other):
    """Tell whether changes lead from one row to the other."""
    check_rows(trade, one, other)
    return find_bar(trade, one, other) is None


def bar(trade, one, other):
    """Tell what bars two rows from being alike, None if nothing does."""
    check_rows(trade, one, other)
    return find_bar(trade, one, other)


def find_bar(trade, one, other):
    """Find the least letter, or else the least pair, that bars two rows."""
    for letter in range(trade.letters):
        if one.count(letter) != other.count(letter):
            return ("letter", letter)
    for low in range(trade.letters):
        for high in range(low + 1, trade.letters):
            if may_change(trade, low, high):
                continue
            place = first_unlike(only(one, low, high), only(other, low, high))
            if place is not None:
                return ("pair", low, high, place)
    return None


def only(row, low, high):
    """The two letters as they stand in a row, all others left out."""
    return [letter for letter in row if letter in (low, high)]


def first_unlike(one, other):
    """The first place at which two rows of one length are unlike, or None."""
    for place in range(len(one)):
        if one[place] != other[place]:
            return place
    return None


def changes(trade, one, other):
    """The places of the fewest changes that lead from one row to the other."""
    check_rows(trade, one, other)
    if find_bar(trade, one, other) is not None:
        return None
    return lead(one, other)


def lead(one, other):
    """The places of the fewest changes between two rows that are alike."""
    # Each letter goes straight to its own place, so it passes only letters
    # that stand behind it in the other row: those it has to pass in any case.
    places = []
    now = list(one)
    for target, letter in enumerate(other):
        start = now.index(letter, target)
        for place in range(start - 1, target - 1, -1):
            places.append(place)
        now.insert(target, now.pop(start))
    return tuple(places)


def least(trade, row):
    """The least row alike to a row."""
    check_trade(trade)
    check_row(trade, row)
    return least_of(bars_of(trade), row)


def first_letters(bars, row):
    """The letters that can come to the first place, each as (letter, place)."""
    found = []
    barred = 0
    for place, letter in enumerate(row):
        if (barred >> letter) & 1 == 0:
            found.append((letter, place))
        barred = barred | bars[letter]
    return found


def without(row, place):
    """A row without the letter at a place."""
    return row[:place] + row[place + 1:]


def least_of(bars, row):
    """The least row alike to a row of any length."""
    found = []
    left = row
    while left:
        letter, place = min(first_letters(bars, left))
        found.append(letter)
        left = without(left, place)
    return tuple(found)


def steps(trade, row):
    """The steps of a row, the letters of each ascending."""
    check_trade(trade)
    check_row(trade, row)
    return steps_of(bars_of(trade), row)


def steps_of(bars, row):
    """The steps of a row of any length."""
    found = []
    left = row
    while left:
        first = first_letters(bars, left)
        places = [place for _, place in first]
        found.append(tuple(sorted([letter for letter, _ in first])))
        left = tuple([letter for place, letter in enumerate(left) if place not in places])
    return tuple(found)


def many(trade, row):
    """How many rows are alike to a row."""
    check_trade(trade)
    check_row(trade, row)
    return count_alike(bars_of(trade), row, {})


def count_alike(bars, row, known):
    """How many rows are alike to a row; known keeps what was counted before."""
    # Many ways lead to the same letters left, which stand in one order each
    # time: without known, each row alike would be counted one by one.
    if not row:
        return 1
    if row not in known:
        total = 0
        for _, place in first_letters(bars, row):
            total = total + count_alike(bars, without(row, place), known)
        known[row] = total
    return known[row]


def number_of(trade, row):
    """How many of the rows alike to a row are less than it."""
    check_trade(trade)
    check_row(trade, row)
    bars = bars_of(trade)
    known = {}
    total = 0
    for start, letter in enumerate(row):
        left = row[start:]
        for lower, place in first_letters(bars, left):
            if lower < letter:
                total = total + count_alike(bars, without(left, place), known)
    return total


def numbered(trade, row, index):
    """The row alike to a row than which so many of these are less."""
    check_trade(trade)
    check_row(trade, row)
    bars = bars_of(trade)
    known = {}
    if not is_whole(index, 0, count_alike(bars, row, known) - 1):
        raise BadNumber()
    return pick(bars, row, index, known)


def pick(bars, row, index, known):
    """The row alike to a row that comes behind so many others."""
    found = []
    left = row
    ahead = index
    while left:
        for letter, place in sorted(first_letters(bars, left)):
            worth = count_alike(bars, without(left, place), known)
            if ahead < worth:
                break
            ahead = ahead - worth
        found.append(letter)
        left = without(left, place)
    return tuple(found)
