"""Fillings that are right for sayings, the greatest ones of them, and what breaks others."""

from widefills.basics import is_below, is_listing
from widefills.choices import MOST_CHOICES, Choices
from widefills.errors import InvalidFilling, InvalidMany, InvalidName, InvalidSayings, TooMany
from widefills.fillings import are_lots, check_lots, check_many, lots_of, whole_of
from widefills.patterns import are_names_below, is_pattern_of
from widefills.readings import is_reading_outside, reading_outside
from widefills.tables import check_class, check_table

MOST_SAYINGS = 3


def is_saying(table, value):
    """Whether the value is a tuple of a pattern and a position."""
    if not isinstance(value, tuple) or len(value) != 2:
        return False
    pattern, position = value
    return is_pattern_of(table.letters, pattern) and is_below(position, len(table.machines()))


def are_sayings(table, value):
    """Whether the value is a list of 1 to 3 sayings of the table."""
    if not is_listing(value) or not 1 <= len(value) <= MOST_SAYINGS:
        return False
    return all([is_saying(table, saying) for saying in value])


def check_sayings(table, sayings):
    """Raise unless these are sayings of the table."""
    if not are_sayings(table, sayings):
        raise InvalidSayings(sayings)


def reach(sayings, many):
    """Whether all names of the sayings are among so many."""
    return all([are_names_below(pattern, many) for pattern, _ in sayings])


def check_names(table, many, sayings):
    """Raise unless these are sayings of a table, with no name from many on."""
    check_table(table)
    check_many(many)
    check_sayings(table, sayings)
    if not reach(sayings, many):
        raise InvalidMany(many)


def check_said(table, sayings, lots):
    """Raise unless these are sayings of a table, and lots for all their names."""
    check_table(table)
    check_sayings(table, sayings)
    check_lots(table, lots)
    if not reach(sayings, len(lots)):
        raise InvalidFilling(lots)


def is_right(table, sayings, lots):
    """Whether the filling is right."""
    check_said(table, sayings, lots)
    return Choices(table, len(lots), sayings).is_right(whole_of(lots, table.classes))


def check_choices(table, many):
    """TooMany if there are more choices of a name and a class than are gone through."""
    if many * table.classes > MOST_CHOICES:
        raise TooMany("choices", MOST_CHOICES)


def greatest(table, many, sayings):
    """The sorted list of all greatest fillings."""
    check_names(table, many, sayings)
    check_choices(table, many)
    choices = Choices(table, many, sayings)
    return sorted([lots_of(whole, many, table.classes) for whole in choices.all_greatest(choices.everything())])


def is_greatest(table, many, sayings, value):
    """Whether the value is one of the greatest fillings."""
    check_names(table, many, sayings)
    if not are_lots(table, value) or len(value) != many:
        return False
    return Choices(table, many, sayings).is_greatest(whole_of(value, table.classes))


def above(table, many, sayings, lots):
    """A greatest filling within which the filling lies, None if there is none."""
    check_names(table, many, sayings)
    if not are_lots(table, lots) or len(lots) != many:
        raise InvalidFilling(lots)
    choices, whole = Choices(table, many, sayings), whole_of(lots, table.classes)
    if not choices.is_right(whole):
        return None
    return lots_of(choices.grown(whole, choices.everything()), many, table.classes)


def with_class(table, sayings, lots, name, one):
    """The lots, with the class one added to the lot of the name."""
    check_said(table, sayings, lots)
    if not is_below(name, len(lots)):
        raise InvalidName(name)
    check_class(table, one)
    return [sorted(set([*lot, one])) if at == name else list(lot) for at, lot in enumerate(lots)]


def growing_break(table, sayings, lots, name, one):
    """A break for the class one added to the lot of the name, None if there is none."""
    grown = with_class(table, sayings, lots, name, one)
    for place, (pattern, position) in enumerate(sayings):
        reading = reading_outside(table, position, pattern, grown)
        if reading is not None:
            return place, reading
    return None


def is_growing_break(table, sayings, lots, name, one, value):
    """Whether the value is a break for the class one added to the lot of the name."""
    grown = with_class(table, sayings, lots, name, one)
    if not isinstance(value, tuple) or len(value) != 2 or not is_below(value[0], len(sayings)):
        return False
    place, reading = value
    pattern, position = sayings[place]
    return is_reading_outside(table, position, pattern, grown, reading)
