"""Rows written as the steps that they are made of."""

from placetrade.errors import InvalidText
from placetrade.rows import MOST_IN_ROW, check_row, least_of, steps_of
from placetrade.trades import all_may_change, bars_of, check_trade

LETTERS = "abcdef"
OPENING = "("
CLOSING = ")"


def write_row(trade, row):
    """The steps of a row, the letters of each in brackets."""
    check_trade(trade)
    check_row(trade, row)
    return "".join([write_step(step) for step in steps_of(bars_of(trade), row)])


def write_step(step):
    """The letters of a step, in brackets."""
    return OPENING + "".join([LETTERS[letter] for letter in step]) + CLOSING


def read_row(trade, text):
    """The least row that has the steps of a text."""
    check_trade(trade)
    bars = bars_of(trade)
    return least_of(bars, read_letters(bars, text))


def read_letters(bars, text):
    """The letters of a text that tells steps, in its order."""
    found = ()
    before = ()
    step = ()
    within = False
    for place, sign in enumerate(text):
        if not within:
            if sign != OPENING:
                raise InvalidText(place)
            within = True
        elif sign == CLOSING and step:
            before = step
            step = ()
            within = False
        else:
            # A bracket is no letter, so it is refused here like any other wrong sign.
            letter = LETTERS.find(sign)
            if len(found) == MOST_IN_ROW or not can_stand(bars, before, step, letter):
                raise InvalidText(place)
            found = found + (letter,)
            step = step + (letter,)
    if within:
        raise InvalidText(len(text))
    return found


def can_stand(bars, before, step, letter):
    """Tell whether a letter can stand next in a step that has another one before it."""
    if letter < 0 or letter >= len(bars):
        return False
    if step and letter <= step[-1]:
        return False
    if not all_may_change(bars, step, (letter,)):
        return False
    # What may pass all letters of the step before would stand in that one.
    return not before or not all_may_change(bars, before, (letter,))
