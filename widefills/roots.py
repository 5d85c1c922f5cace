"""Machines whose lots are rounds, the roots of these, and power lots."""

from widefills.fillings import check_many
from widefills.greatest import greatest
from widefills.machines import check_machine
from widefills.makings import behind, check_two, is_within, of_words, rounds, without
from widefills.tables import check_position, check_table


def is_round(machine):
    """Whether the machine's lot is the rounds of some lot of words."""
    check_machine(machine)
    return 0 in machine.ends() and is_within(behind(machine, machine), machine)


def root(machine):
    """The Machine of the least lot whose rounds are the machine's lot, None if there is none."""
    if not is_round(machine):
        return None
    words = without(machine, of_words(machine.letters, [""]))
    return without(words, behind(words, words))


def is_root(machine, other):
    """Whether the rounds of the other one's lot are the machine's lot."""
    check_two(machine, other)
    return rounds(other) == machine


def power_lots(table, position, many):
    """The sorted list of the greatest lots whose words, so many one behind the other, the machine lets."""
    check_table(table)
    check_position(table, position)
    check_many(many)
    pattern = ("name", 0)
    for _ in range(many - 1):
        pattern = ("behind", ("name", 0), pattern)
    return [lots[0] for lots in greatest(table, 1, [(pattern, position)])]
