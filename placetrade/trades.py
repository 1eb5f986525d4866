"""Trades: how many letters there are, and which of them may change places."""

from placetrade.errors import BadLetters, BadPairs, BadTrade

MOST_LETTERS = 6


def is_whole(value, low, high):
    """Tell whether a value is an integer from low to high."""
    # True and False are integers to Python, but not here.
    if isinstance(value, bool) or not isinstance(value, int):
        return False
    return low <= value <= high


def is_letter(letters, value):
    """Tell whether a value is one of so many letters."""
    return is_whole(value, 0, letters - 1)


def is_pair(letters, value):
    """Tell whether a value is a tuple (a, b) of letters with a < b."""
    if not isinstance(value, tuple) or len(value) != 2:
        return False
    if not all([is_letter(letters, letter) for letter in value]):
        return False
    return value[0] < value[1]


def check_pairs(letters, pairs):
    """Raise BadPairs for what is no ascending tuple of pairs of letters."""
    if not isinstance(pairs, tuple):
        raise BadPairs(None)
    for index, pair in enumerate(pairs):
        if not is_pair(letters, pair):
            raise BadPairs(index)
        if index > 0 and pair <= pairs[index - 1]:
            raise BadPairs(index)


class Trade:
    """Some letters, and the pairs of them that may change places."""

    def __init__(self, letters, pairs):
        if not is_whole(letters, 1, MOST_LETTERS):
            raise BadLetters()
        check_pairs(letters, pairs)
        self._letters = letters
        self._pairs = pairs

    @property
    def letters(self):
        """How many letters there are."""
        return self._letters

    @property
    def pairs(self):
        """The pairs of letters that may change places, ascending."""
        return self._pairs

    def __eq__(self, other):
        return isinstance(other, Trade) and self.letters == other.letters and self.pairs == other.pairs


def check_trade(trade):
    """Raise BadTrade for what is no Trade."""
    if not isinstance(trade, Trade):
        raise BadTrade()


def may_change(trade, one, other):
    """Tell whether two letters may change places."""
    return (min(one, other), max(one, other)) in trade.pairs


def bars_of(trade):
    """For each letter an integer whose bits are the letters that bar its way.

    A letter bars its own way: it never changes places with itself.
    """
    bars = []
    for letter in range(trade.letters):
        bits = 0
        for other in range(trade.letters):
            if not may_change(trade, letter, other):
                bits = bits | (1 << other)
        bars.append(bits)
    return bars


def all_may_change(bars, one, other):
    """Tell whether each letter of one may change places with each of the other."""
    return all([(bars[letter] >> against) & 1 == 0 for letter in one for against in other])
