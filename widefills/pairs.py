"""The pairs of fronts and backs of a machine of a table."""

from widefills.basics import are_unlike_below
from widefills.errors import TooMany
from widefills.lots import rest_ahead, rest_behind
from widefills.tables import passed

MOST_PAIRS = 32


def pairs(table, position):
    """The sorted list of all pairs, tuples of two rising lists of classes."""
    let = passed(table, position)
    everything = list(range(table.classes))
    # All backs are met by those of single classes; the one of no class is everything.
    backs = [everything]
    for one in everything:
        single = rest_behind(table, [one], let)
        for back in list(backs):
            common = [other for other in back if other in single]
            if common not in backs:
                backs.append(common)
        if len(backs) > MOST_PAIRS:
            raise TooMany("pairs", MOST_PAIRS)
    return sorted([(rest_ahead(table, back, let), back) for back in backs])


def is_pair(table, position, value):
    """Whether the value is a tuple of two lots that are a pair."""
    let = passed(table, position)
    if not isinstance(value, tuple) or len(value) != 2:
        return False
    if not all([are_unlike_below(lot, table.classes) for lot in value]):
        return False
    front, back = value
    return rest_behind(table, front, let) == sorted(back) and rest_ahead(table, back, let) == sorted(front)


def pair_over(table, position, lot):
    """The pair with the least front that has the lot within it."""
    let = passed(table, position)
    back = rest_behind(table, lot, let)
    return rest_ahead(table, back, let), back


def first_pair(table, position):
    """The place of the pair over the class of the empty word."""
    return pairs(table, position).index(pair_over(table, position, [0]))


def last_pair(table, position):
    """The place of the pair whose front are the classes that are let."""
    return pairs(table, position).index(pair_over(table, position, passed(table, position)))
