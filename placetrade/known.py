"""Which pairs may change places, by what is known of rows."""

from placetrade.errors import BadFacts, BadLetters
from placetrade.rows import find_bar, is_row
from placetrade.trades import Trade, is_whole

MOST_LETTERS_KNOWN = 4
MOST_FACTS = 20
ALIKE = "alike"
UNLIKE = "unlike"


def trades_by(letters, facts):
    """All trades with so many letters for which facts hold, by their pairs ascending."""
    if not is_whole(letters, 1, MOST_LETTERS_KNOWN):
        raise BadLetters()
    check_facts(letters, facts)
    trades = [Trade(letters, pairs) for pairs in choices_of_pairs(letters)]
    return [trade for trade in trades if all_hold(trade, facts)]


def check_facts(letters, facts):
    """Raise BadFacts for what is no tuple of facts."""
    if not isinstance(facts, tuple) or len(facts) > MOST_FACTS:
        raise BadFacts(None)
    for index, fact in enumerate(facts):
        if not is_fact(letters, fact):
            raise BadFacts(index)


def is_fact(letters, value):
    """Tell whether a value is two rows of so many letters, and what they are said to be."""
    if not isinstance(value, tuple) or len(value) != 3:
        return False
    one, other, word = value
    return is_row(letters, one) and is_row(letters, other) and word in (ALIKE, UNLIKE)


def choices_of_pairs(letters):
    """The pairs of each trade with so many letters, ascending."""
    found = [()]
    for low in range(letters):
        for high in range(low + 1, letters):
            found = found + [pairs + ((low, high),) for pairs in found]
    return sorted(found)


def all_hold(trade, facts):
    """Tell whether all facts hold for a trade."""
    return all([holds(trade, one, other, word) for one, other, word in facts])


def holds(trade, one, other, word):
    """Tell whether two rows are what they are said to be."""
    return (find_bar(trade, one, other) is None) == (word == ALIKE)
