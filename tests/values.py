"""Values of every kind that the document names as "any value"."""

from placetrade import errors
from placetrade.lines import Line
from placetrade.trades import Trade


def line_of(trade, row):
    """A line that stands as a row."""
    line = Line(trade)
    for letter in row:
        line.add(letter)
    return line


def any_values():
    """One list of values of all kinds, made anew for each call."""
    return [
        0, 1, -1, 2, 7, 21, 10 ** 30, -10 ** 30,
        "", "0", "abc", True, False, None,
        (), (0,), (0, 1), (True,), (False, True), (0, None), (-1,), ("0",), ((0, 1),), ((), ()),
        [], [0], [0, 1], [(0, 1)], [[]],
        {}, {0: 1}, {"a": (0,)}, {(0, 1): [2]},
        Trade(2, ()), Trade(3, ((0, 1), (1, 2))), (Trade(1, ()),),
        Line(Trade(2, ())), line_of(Trade(3, ((0, 1), (1, 2))), (1, 0)), (Line(Trade(1, ())),),
        errors.BadTrade(), errors.BadPairs(0), errors.InvalidText(3), (errors.BadRow(),),
    ]


def any_texts():
    """One list of texts, for what takes any string and nothing else."""
    return [value for value in any_values() if isinstance(value, str)]


def is_integer(value):
    """Tell whether a value is an integer as the document means it."""
    return isinstance(value, int) and value is not True and value is not False


def is_row(value, letters):
    """Tell whether a value is a row of a trade with so many letters."""
    if not isinstance(value, tuple) or len(value) > 20:
        return False
    for letter in value:
        if not is_integer(letter) or letter < 0 or letter >= letters:
            return False
    return True


def raised(called, *given):
    """The error that a call raises, None if it returns."""
    try:
        called(*given)
    except Exception as error:
        return error
    return None


def history(line):
    """All rows that a line stood as and can still go back to, the last one first."""
    back = line.copy()
    rows = [back.row]
    while back.undo():
        rows.append(back.row)
    return rows
