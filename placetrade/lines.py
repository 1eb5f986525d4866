"""A line of letters that grows, changes and takes back."""

from placetrade.errors import BadLetter, BadPlace, Full
from placetrade.rows import MOST_IN_ROW, count_alike, least_of
from placetrade.trades import bars_of, check_trade, is_letter, is_whole, may_change


class Line:
    """A row of a trade that is led letter by letter and change by change."""

    def __init__(self, trade):
        check_trade(trade)
        self._trade = trade
        # All rows that led here, the one that stands now last: to take a deed
        # back is to drop the last one.
        self._rows = [()]

    @property
    def row(self):
        """The letters as they stand now."""
        return self._rows[-1]

    @property
    def least(self):
        """The least row alike to the one that stands now."""
        return least_of(bars_of(self._trade), self.row)

    def add(self, letter):
        """Put a letter behind the others, and return how many rows are alike then."""
        if not is_letter(self._trade.letters, letter):
            raise BadLetter()
        if len(self.row) == MOST_IN_ROW:
            raise Full()
        longer = self.row + (letter,)
        self._rows.append(longer)
        return count_alike(bars_of(self._trade), longer, {})

    def swap(self, place):
        """Make a change at a place, and return the two letters that stand there then."""
        now = self.row
        if not is_change(self._trade, now, place):
            raise BadPlace()
        pair = (now[place + 1], now[place])
        self._rows.append(now[:place] + pair + now[place + 2:])
        return pair

    def undo(self):
        """Take the last letter or change back, and return whether there was one."""
        if len(self._rows) == 1:
            return False
        self._rows.pop()
        return True

    def copy(self):
        """An independent line that stands as this one and can take back the same."""
        other = Line(self._trade)
        other._rows = list(self._rows)
        return other

    def __len__(self):
        return len(self._rows[-1])


def is_change(trade, row, place):
    """Tell whether a value is a place of a row at which a change can be made."""
    if not is_whole(place, 0, len(row) - 2):
        return False
    return may_change(trade, row[place], row[place + 1])
