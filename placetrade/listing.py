"""Unlike rows with so many of each letter, and the least rows of a length in order."""

from placetrade.counts import all_groups, sign
from placetrade.errors import BadCounts, BadLength, BadNumber, TooLong
from placetrade.rows import MOST_IN_ROW, check_row, least_of
from placetrade.trades import bars_of, check_trade, is_whole

MOST_OF_ONE = 12
MOST_TOGETHER = 40
MOST_LENGTH_TO_LIST = 60


def check_counts(trade, counts):
    """Raise BadCounts for what does not tell how often each letter stands."""
    if not isinstance(counts, tuple) or len(counts) != trade.letters:
        raise BadCounts()
    if not all([is_whole(count, 0, MOST_OF_ONE) for count in counts]):
        raise BadCounts()
    if sum(counts) > MOST_TOGETHER:
        raise BadCounts()


def how_many_with(trade, counts):
    """How many unlike rows have so many of each letter."""
    check_trade(trade)
    check_counts(trade, counts)
    # As for lengths, the numbers with the letters of each group once less are
    # added for groups of odd size and taken off for those of even size. All
    # counts up to these stand in one list, ascending, so that a group leads
    # equally far back in it wherever it is taken away.
    chosen = choices_up_to(counts)
    groups = groups_within(trade, counts)
    found = [1]
    for place in range(1, len(chosen)):
        total = 0
        for back, worth in groups[chosen[place]]:
            total = total + worth * found[place - back]
        found.append(total)
    return found[-1]


def choices_up_to(counts):
    """For all counts up to these, ascending, the bits of the letters that stand at all."""
    found = [0]
    for letter, count in enumerate(counts):
        found = [bits | (min(many, 1) << letter) for bits in found for many in range(count + 1)]
    return found


def groups_within(trade, counts):
    """For the bits of any letters the groups of these alone, each as (how far back, its sign)."""
    told = [(bits_of(group), far_back(counts, group), -sign(len(group))) for group in all_groups(trade) if group]
    found = []
    for bits in range(1 << trade.letters):
        found.append([(back, worth) for own, back, worth in told if own & bits == own])
    return found


def bits_of(group):
    """The letters of a group as bits."""
    return sum([1 << letter for letter in group])


def far_back(counts, group):
    """How far back the counts stand that have each letter of a group once less."""
    total = 0
    for letter, count in enumerate(counts):
        total = total * (count + 1) + group.count(letter)
    return total


def least_with(trade, counts):
    """The least row with so many of each letter."""
    check_trade(trade)
    check_counts(trade, counts)
    if sum(counts) > MOST_IN_ROW:
        raise TooLong()
    # Nothing is less than the letters in ascending order.
    return tuple([letter for letter, count in enumerate(counts) for _ in range(count)])


def numbered_least(trade, length, index):
    """The least row of a length that comes behind so many others."""
    check_trade(trade)
    if not is_whole(length, 0, MOST_LENGTH_TO_LIST):
        raise BadLength()
    bars = bars_of(trade)
    known = {}
    if not is_whole(index, 0, count_least(bars, 0, length, known) - 1):
        raise BadNumber()
    return pick_least(bars, length, index, known)


def place_of(trade, row):
    """Behind how many the least row alike to a row comes, among those of its length."""
    check_trade(trade)
    check_row(trade, row)
    bars = bars_of(trade)
    return count_ahead(bars, least_of(bars, row), {})


def next_least(trade, row):
    """The least row that comes behind the one alike to a row, or None."""
    check_trade(trade)
    check_row(trade, row)
    bars = bars_of(trade)
    known = {}
    index = count_ahead(bars, least_of(bars, row), known) + 1
    if index == count_least(bars, 0, len(row), known):
        return None
    return pick_least(bars, len(row), index, known)


def ways_on(bars, shut):
    """The letters that can stand next in a least row, each with those shut behind it.

    shut are the bits of the letters that cannot stand next, since they could
    pass back to a greater one. A letter shuts all less ones, and opens those
    that it bars.
    """
    found = []
    for letter, barred in enumerate(bars):
        if (shut >> letter) & 1 == 0:
            lower = shut | ((1 << letter) - 1)
            found.append((letter, lower - (lower & barred)))
    return found


def count_least(bars, shut, length, known):
    """How many ways lead on by so many letters; known keeps what was counted before."""
    if length == 0:
        return 1
    if (shut, length) not in known:
        total = 0
        for _, behind in ways_on(bars, shut):
            total = total + count_least(bars, behind, length - 1, known)
        known[(shut, length)] = total
    return known[(shut, length)]


def count_ahead(bars, row, known):
    """How many least rows of the length of a least row are less than it."""
    total = 0
    shut = 0
    for place, letter in enumerate(row):
        ways = ways_on(bars, shut)
        for lower, behind in ways:
            if lower < letter:
                total = total + count_least(bars, behind, len(row) - place - 1, known)
        shut = dict(ways)[letter]
    return total


def pick_least(bars, length, index, known):
    """The least row of a length that comes behind so many others, unchecked."""
    found = []
    shut = 0
    ahead = index
    for left in range(length - 1, -1, -1):
        for letter, behind in ways_on(bars, shut):
            worth = count_least(bars, behind, left, known)
            if ahead < worth:
                break
            ahead = ahead - worth
        found.append(letter)
        shut = behind
    return tuple(found)
