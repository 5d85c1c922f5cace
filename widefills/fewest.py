"""The fewest states of a machine that guesses for a lot, found among the parts of the one machine of pairs."""

from widefills.errors import TooMany
from widefills.fillings import lot_of
from widefills.guessers import first_untold
from widefills.pairs import pairs
from widefills.universals import guesser_of, part

MOST_CHOSEN_AMONG = 10


def fewest(table, position):
    """The fewest states of a guesser that tells just what the machine lets."""
    return len(fewest_places(table, position)[0])


def least_guesser(table, position):
    """A Guesser with the fewest states that tells just what the machine lets."""
    return part(table, position, fewest_places(table, position)[0])


def fewest_places(table, position):
    """The sorted list of all rising lists of the fewest places whose part tells just what the machine lets."""
    told, machine = pairs(table, position), table.machines()[position]
    if len(told) > MOST_CHOSEN_AMONG:
        raise TooMany("pairs", MOST_CHOSEN_AMONG)
    # No part tells a word that the machine does not let: those that tell all that it lets are looked for.
    chosen = [lot_of(mask) for mask in range(1 << len(told))]
    for size in range(len(told)):
        found = [places for places in chosen if len(places) == size
                 and first_untold(guesser_of(table, [told[place] for place in places]), machine) is None]
        if found:
            return sorted(found)
    return [list(range(len(told)))]


def lost_by(table, position, places):
    """The first word that the machine lets and the part of the places does not tell, None if there is none."""
    return first_untold(part(table, position, places), table.machines()[position])
