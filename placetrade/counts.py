"""Letters that may change places all with one another, and how many rows there are."""

from placetrade.errors import BadLength, BadModulus
from placetrade.trades import check_trade, is_whole, may_change

MOST_LENGTH = 500
MOST_LENGTH_BY = 10 ** 30
MOST_MODULUS = 10 ** 9


def groups(trade):
    """All ascending tuples of letters of which any two may change places."""
    check_trade(trade)
    return all_groups(trade)


def all_groups(trade):
    """The list of groups, unchecked."""
    found = [()]
    for letter in range(trade.letters):
        found = found + [group + (letter,) for group in found if may_join(trade, group, letter)]
    return sorted(found)


def may_join(trade, group, letter):
    """Tell whether a letter may change places with all letters of a group."""
    return all([may_change(trade, other, letter) for other in group])


def signed_counts(trade):
    """For each size how many groups have it, with a minus for odd sizes."""
    counts = [0] * (trade.letters + 1)
    for group in all_groups(trade):
        counts[len(group)] += sign(len(group))
    return counts


def sign(number):
    """1 for an even number, -1 for an odd one."""
    if number % 2 == 0:
        return 1
    return -1


def how_many(trade, length):
    """How many rows of a length there are of which no two are alike."""
    check_trade(trade)
    if not is_whole(length, 0, MOST_LENGTH):
        raise BadLength()
    counts = signed_counts(trade)
    found = [1]
    for now in range(1, length + 1):
        total = 0
        for size in range(1, min(now, trade.letters) + 1):
            total = total - counts[size] * found[now - size]
        found.append(total)
    return found[length]


def how_many_by(trade, length, modulus):
    """The remainder by modulus of how many unlike rows of a length there are."""
    check_trade(trade)
    if not is_whole(length, 0, MOST_LENGTH_BY):
        raise BadLength()
    if not is_whole(modulus, 1, MOST_MODULUS):
        raise BadModulus()
    return term_by(signed_counts(trade), length, modulus)


def term_by(counts, length, modulus):
    """The term of this length, by modulus, of the series 1 / counts."""
    # The numbers of rows are the terms of 1 / counts. What is below the line is
    # multiplied above and below, each second sign changed: each second term
    # below is 0 then, so that above only those of one parity matter, and with
    # the others left out the length halves.
    above = [1]
    below = counts
    left = length
    while left > 0:
        other = change_signs(below)
        above = multiply(above, other, modulus)[left % 2::2]
        below = multiply(below, other, modulus)[::2]
        left = left // 2
    return above[0] % modulus


def change_signs(terms):
    """The terms of which each second one has its sign changed."""
    return [term * sign(place) for place, term in enumerate(terms)]


def multiply(one, other, modulus):
    """The terms, by modulus, of the product of two sums of powers."""
    found = [0] * (len(one) + len(other) - 1)
    for low, term in enumerate(one):
        for high, by in enumerate(other):
            found[low + high] = (found[low + high] + term * by) % modulus
    return found
