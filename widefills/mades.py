"""Whether a machine's lot is made by a pattern, and the words that are lost."""

from widefills.basics import is_listing
from widefills.fillings import are_lots, is_filling
from widefills.greatest import greatest
from widefills.lots import lot_machine
from widefills.machines import led_to
from widefills.makings import WANTED_OF_FIRST_ALONE, first_wanted
from widefills.patterns import are_names_below, check_pattern, made_machine, names_in
from widefills.readings import check_made
from widefills.tables import check_position, check_table
from widefills.words import is_word_of


def check_wanted(table, position, pattern):
    """Raise unless this is a machine of a table, and a pattern."""
    check_table(table)
    check_position(table, position)
    check_pattern(table.letters, pattern)


def greatest_fillings(table, position, pattern):
    """The greatest fillings of the names up to the greatest one of the pattern, at least of one."""
    check_wanted(table, position, pattern)
    many = max([0, *names_in(pattern)]) + 1
    return greatest(table, many, [(pattern, position)])


def made_of_lots(table, pattern, lots):
    """The Machine of what the pattern makes with the lots."""
    return made_machine(table.letters, pattern, [lot_machine(table, lot) for lot in lots])


def is_made(table, position, pattern):
    """Whether the machine's lot is made by the pattern."""
    return making(table, position, pattern) is not None


def making(table, position, pattern):
    """Lots that make the machine's lot by the pattern, None if there are none."""
    for lots in greatest_fillings(table, position, pattern):
        if made_of_lots(table, pattern, lots) == table.machines()[position]:
            return lots
    return None


def is_making(table, position, pattern, value):
    """Whether the value is lots, one at least for each name of the pattern, that make the machine's lot."""
    check_wanted(table, position, pattern)
    if not is_filling(table, value) or not are_names_below(pattern, len(value)):
        return False
    return made_of_lots(table, pattern, value) == table.machines()[position]


def lost(table, position, pattern, lots):
    """The first word that is lost by the lots, None if none is."""
    check_made(table, position, pattern, lots)
    return first_lost(table, position, pattern, lots)


def first_lost(table, position, pattern, lots):
    """The same, of what is known to be right."""
    return first_wanted(table.machines()[position], made_of_lots(table, pattern, lots), WANTED_OF_FIRST_ALONE)


def losses(table, position, pattern):
    """For each greatest filling the filling and the first word that it loses, None if one loses none."""
    found = []
    for lots in greatest_fillings(table, position, pattern):
        word = first_lost(table, position, pattern, lots)
        if word is None:
            return None
        found.append((lots, word))
    return found


def is_losses(table, position, pattern, value):
    """Whether the value is, for each greatest filling in their sequence, the filling and a word that it loses."""
    fillings = greatest_fillings(table, position, pattern)
    if not is_listing(value) or len(value) != len(fillings):
        return False
    if not all([is_filling_with_word(table, lots, loss) for lots, loss in zip(fillings, value)]):
        return False
    return all([is_lost(table, position, pattern, lots, loss[1]) for lots, loss in zip(fillings, value)])


def is_filling_with_word(table, lots, value):
    """Whether the value is a tuple of the lots, their classes in whatever sequence, and a string."""
    if not isinstance(value, tuple) or len(value) != 2 or not isinstance(value[1], str):
        return False
    return are_lots(table, value[0]) and [sorted(lot) for lot in value[0]] == lots


def is_lost(table, position, pattern, lots, word):
    """Whether the string is a word that the lots lose."""
    if not is_word_of(table.letters, word):
        # It is too long for a word; but where the first one that is lost is so long, no other will do.
        return word == first_lost(table, position, pattern, lots)
    machine, other = table.machines()[position], made_of_lots(table, pattern, lots)
    return led_to(machine, word) in machine.ends() and led_to(other, word) not in other.ends()
