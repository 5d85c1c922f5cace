"""Greatest fillings between bounds: least machines and most machines of their lots."""

from widefills.basics import is_below, is_listing
from widefills.choices import Choices
from widefills.errors import InvalidLeast, InvalidMost
from widefills.fillings import lots_of, whole_of
from widefills.greatest import check_choices, check_names, check_said
from widefills.lots import widened
from widefills.machines import Machine
from widefills.tables import passed


def check_least(table, many, least):
    """Raise unless this is a list of so many, each None or a Machine of the table's letters."""
    if not is_listing(least) or len(least) != many:
        raise InvalidLeast(least)
    for machine in least:
        if machine is not None and not (isinstance(machine, Machine) and machine.letters == table.letters):
            raise InvalidLeast(least)


def check_most(table, many, most):
    """Raise unless this is a list of so many, each None or a position of a machine of the table."""
    if not is_listing(most) or len(most) != many:
        raise InvalidMost(most)
    for position in most:
        if position is not None and not is_below(position, len(table.machines())):
            raise InvalidMost(most)


def whole_least(table, least):
    """The filling by all classes that have a word of the least ones, as one integer."""
    lots = [[] if machine is None else widened(table, machine) for machine in least]
    return whole_of(lots, table.classes)


def whole_most(table, most):
    """The filling by all classes whose words the most ones let, as one integer."""
    everything = list(range(table.classes))
    lots = [everything if position is None else passed(table, position) for position in most]
    return whole_of(lots, table.classes)


def bounded(table, many, sayings, least, most):
    """The sorted list of all greatest fillings between the bounds."""
    check_names(table, many, sayings)
    check_least(table, many, least)
    check_most(table, many, most)
    check_choices(table, many)
    least_whole = whole_least(table, least)
    wholes = Choices(table, many, sayings).all_greatest(whole_most(table, most))
    # To those within the most ones no class can be added: so those of them that hold the least ones are all.
    return sorted([lots_of(whole, many, table.classes) for whole in wholes if least_whole & ~whole == 0])


def fits(table, sayings, least, most, lots):
    """Whether the filling is right and between the bounds."""
    check_said(table, sayings, lots)
    check_least(table, len(lots), least)
    check_most(table, len(lots), most)
    whole = whole_of(lots, table.classes)
    if whole_least(table, least) & ~whole or whole & ~whole_most(table, most):
        return False
    return Choices(table, len(lots), sayings).is_right(whole)
