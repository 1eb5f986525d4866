"""The errors of the package, one class for each kind of failure."""


class TradeError(ValueError):
    """The base class of all errors here."""

    def __init__(self):
        """Take nothing: a field stands only where a class below tells one."""


class BadLetters(TradeError):
    """What was passed is no number of letters."""


class BadPairs(TradeError):
    """What was passed is no ascending tuple of pairs of letters.

    index is that of the first thing that is wrong, None for what is no tuple.
    """

    def __init__(self, index):
        self.index = index


class BadTrade(TradeError):
    """What was passed is no Trade."""


class BadRow(TradeError):
    """What was passed is no row of the trade."""


class BadNumber(TradeError):
    """What was passed is no number of the kind that is asked for."""


class TooLong(TradeError):
    """A row has, or would have, more letters than are allowed here."""


class BadLength(TradeError):
    """What was passed is no length of the kind that is asked for."""


class BadModulus(TradeError):
    """What was passed is no modulus."""


class BadFacts(TradeError):
    """What was passed is no tuple of facts.

    index is that of the first thing that is no fact, None for what is no
    tuple, or one that has too many things.
    """

    def __init__(self, index):
        self.index = index


class BadLetter(TradeError):
    """What was passed is no letter of the trade."""


class Full(TradeError):
    """A line has as many letters as it can have."""


class BadPlace(TradeError):
    """What was passed is no place at which a change can be made."""


class BadCounts(TradeError):
    """What was passed does not tell how often each letter stands."""


class InvalidText(TradeError):
    """A text does not tell steps; place is that of the first wrong sign."""

    def __init__(self, place):
        self.place = place
