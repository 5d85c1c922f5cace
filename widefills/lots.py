"""Lots of classes of a table."""

from widefills.basics import are_unlike_below
from widefills.errors import InvalidLot
from widefills.least import explored
from widefills.machines import check_like_letters, check_machine, machine_of
from widefills.tables import check_table


def check_lot(table, lot):
    """Raise unless this is a lot of classes of the table."""
    if not are_unlike_below(lot, table.classes):
        raise InvalidLot(lot)


def check_two_lots(table, lot, other):
    """Raise unless these are two lots of classes of a Table."""
    check_table(table)
    check_lot(table, lot)
    check_lot(table, other)


def widened(table, machine):
    """The lot of all classes that have a word that the machine lets."""
    check_table(table)
    check_machine(machine)
    check_like_letters(table, machine)
    class_steps, steps, ends = table.class_steps, machine.steps(), machine.ends()

    def lead(both, letter):
        return class_steps[both[0]][letter], steps[both[1]][letter]

    keys, _ = explored((0, 0), table.letters, lead)
    return sorted({one for one, state in keys if state in ends})


def lot_machine(table, lot):
    """The Machine that lets just the words of the lot."""
    check_table(table)
    check_lot(table, lot)
    return machine_of(table.letters, table.class_steps, lot)


def behind_lots(table, lot, other):
    """The lot of the products of each class of the first and each class of the second one."""
    check_two_lots(table, lot, other)
    return sorted({table.products[one][two] for one in lot for two in other})


def rounds_lot(table, lot):
    """The lot of the class 0 and of all products of classes of the lot, however many."""
    check_table(table)
    check_lot(table, lot)

    def lead(one, at):
        return table.products[one][lot[at]]

    keys, _ = explored(0, len(lot), lead)
    return sorted(keys)


def rest_behind(table, lot, other):
    """The greatest lot that stays within the second one, put behind the first one."""
    check_two_lots(table, lot, other)
    return [one for one in range(table.classes) if all([table.products[first][one] in other for first in lot])]


def rest_ahead(table, lot, other):
    """The greatest lot that stays within the second one, put ahead of the first one."""
    check_two_lots(table, lot, other)
    return [one for one in range(table.classes) if all([table.products[one][first] in other for first in lot])]
