"""A plain search of all changes, to hold the results of the program against."""

from itertools import combinations, product

from placetrade.trades import Trade


def all_trades(letters):
    """All trades with so many letters."""
    pairs = list(combinations(range(letters), 2))
    chosen = [some for size in range(len(pairs) + 1) for some in combinations(pairs, size)]
    return [Trade(letters, some) for some in chosen]


def all_rows(letters, length):
    """All rows with so many letters of so many, ascending."""
    return list(product(range(letters), repeat=length))


def rows_up_to(letters, longest):
    """All rows of at most so many letters, shorter ones ahead."""
    return [row for length in range(longest + 1) for row in all_rows(letters, length)]


def change(row, place):
    """The row after a change at a place."""
    return row[:place] + (row[place + 1], row[place]) + row[place + 2:]


def may(trade, row, place):
    """Tell whether the pairs of a trade allow a change at a place of a row."""
    return tuple(sorted(row[place:place + 2])) in trade.pairs


def distances(trade, row):
    """Each row that changes lead to, with the fewest changes to it."""
    found = {row: 0}
    queue = [row]
    for here in queue:
        for place in range(len(here) - 1):
            there = change(here, place)
            if may(trade, here, place) and there not in found:
                found[there] = found[here] + 1
                queue.append(there)
    return found


def steps(trade, row):
    """The steps of a row: what can come first by changes, taken away each time."""
    found = []
    left = row
    while left:
        first = sorted({there[0] for there in distances(trade, left)})
        for letter in first:
            place = left.index(letter)
            left = left[:place] + left[place + 1:]
        found.append(tuple(first))
    return tuple(found)


def bar(trade, one, other):
    """What bars two rows, found through all that changes lead to."""
    if other in distances(trade, one):
        return None
    for letter in range(trade.letters):
        if one.count(letter) != other.count(letter):
            return ("letter", letter)
    found = []
    for low, high in combinations(range(trade.letters), 2):
        mine = [letter for letter in one if letter in (low, high)]
        its = [letter for letter in other if letter in (low, high)]
        unlike = [place for place in range(len(mine)) if mine[place] != its[place]]
        if (low, high) not in trade.pairs and unlike:
            found.append(("pair", low, high, min(unlike)))
    return min(found)


def follow(trade, row, places):
    """The row that changes at these places lead to, None if one may not be."""
    for place in places:
        if place < 0 or place > len(row) - 2 or not may(trade, row, place):
            return None
        row = change(row, place)
    return row


def least(trade, row):
    """The least row of all that changes lead to."""
    return min(distances(trade, row))


def firsts(trade, row):
    """All rows with which some row that is alike to a row begins."""
    return {there[:length] for there in distances(trade, row) for length in range(len(row) + 1)}


def lasts(trade, row):
    """All rows with which some row that is alike to a row ends."""
    return {there[length:] for there in distances(trade, row) for length in range(len(row) + 1)}


def unlike(trade, rows):
    """The least rows, ascending, of rows of which there are all alike ones."""
    found, seen = [], set()
    for row in sorted(rows):
        if row not in seen:
            found.append(row)
            seen.update(distances(trade, row))
    return found


def may_all(trade, one, other):
    """Tell whether each letter of one may change places with each of the other."""
    return all(tuple(sorted(pair)) in trade.pairs for pair in product(one, other))


def shuffled(source, trade, row):
    """A row alike to a row, after many changes at places by chance."""
    for _ in range(15 * len(row)):
        place = source.randrange(len(row))
        if place < len(row) - 1 and may(trade, row, place):
            row = change(row, place)
    return row
