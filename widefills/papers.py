"""Papers: what shows that claims are true. Claims are told here by their word and the parts behind it."""

from widefills.answers import lost_word, told_by
from widefills.basics import is_below, is_listing
from widefills.greatest import above, is_greatest
from widefills.guessers import first_mistold, first_untold, is_telling, is_told, of_use
from widefills.machines import led_to
from widefills.mades import is_losses, is_making, losses, making
from widefills.patterns import is_mixed, is_thing, mixed_parting
from widefills.readings import is_outside, outside
from widefills.universals import is_map, map_to
from widefills.words import LONGEST_WORD, is_word_of


def paper_for(word, parts):
    """A paper of the claim, None if there is none: it is not true, or its kind has no papers."""
    finders = {"outside": outside, "unlike": mixed_parting, "right": above, "wrong": way_out, "made": making,
               "unmade": losses, "told": map_of_use, "mistold": told_parting, "inexact": lost_word}
    if word not in finders:
        return None
    finder = finders[word]
    return finder(*parts)


def is_paper_for(word, parts, value):
    """Whether the value is a paper of the claim."""
    tellers = {"outside": is_outside, "unlike": is_mixed_parting, "right": is_above, "wrong": is_way_out,
               "made": is_making, "unmade": is_losses, "told": is_map_of_use, "mistold": is_told_parting,
               "inexact": is_lost_word}
    if word not in tellers:
        return False
    teller = tellers[word]
    return teller(*parts, value)


def is_mixed_parting(letters, pattern, other, value):
    """Whether the value is a mixed word that just one of both patterns makes."""
    if is_listing(value) and len(value) > LONGEST_WORD:
        # It is too long for a mixed word; but where the first one is so long, there is no other.
        first = mixed_parting(letters, pattern, other)
        return all([is_thing(letters, thing) for thing in value]) and list(value) == first
    return is_mixed(letters, pattern, value) != is_mixed(letters, other, value)


def is_above(table, many, sayings, lots, value):
    """Whether the value is a greatest filling within which the lots lie."""
    if not is_greatest(table, many, sayings, value):
        return False
    return all([one in greater for lot, greater in zip(lots, value) for one in lot])


def way_out(table, _, sayings, lots):
    """The position of a saying and a reading of it that leaves, None if the lots are right."""
    for place, (pattern, position) in enumerate(sayings):
        reading = outside(table, position, pattern, lots)
        if reading is not None:
            return place, reading
    return None


def is_way_out(table, _, sayings, lots, value):
    """Whether the value is a tuple of the position of a saying and a reading of it that leaves."""
    if not isinstance(value, tuple) or len(value) != 2 or not is_below(value[0], len(sayings)):
        return False
    pattern, position = sayings[value[0]]
    return is_outside(table, position, pattern, lots, value[1])


def map_of_use(table, position, guesser):
    """A map of the guesser's states of use, None unless it tells the machine."""
    if not is_telling(guesser, table.machines()[position]):
        return None
    return map_to(table, position, of_use(guesser))


def is_map_of_use(table, position, guesser, value):
    """Whether the guesser tells the machine, and the value is a map of its states of use."""
    return is_telling(guesser, table.machines()[position]) and is_map(table, position, of_use(guesser), value)


def told_parting(table, position, guesser):
    """A word that just one of guesser and machine lets, None if there is none."""
    machine = table.machines()[position]
    words = [first_mistold(guesser, machine), first_untold(guesser, machine)]
    return min([word for word in words if word is not None], key=len, default=None)


def is_told_parting(table, position, guesser, value):
    """Whether the value is a word that just one of guesser and machine lets."""
    if not is_word_of(table.letters, value):
        # A word that parts them may be too long for a word: of these just the one that is told will do.
        return isinstance(value, str) and value == told_parting(table, position, guesser)
    machine = table.machines()[position]
    return is_told(guesser, value) != (led_to(machine, value) in machine.ends())


def is_lost_word(machine, views, value):
    """Whether the value is a word that the machine lets and that no sure view word reads."""
    read = told_by(machine, views)
    if not is_word_of(machine.letters, value):
        # As above: of those that are too long for a word just the one that is told will do.
        return isinstance(value, str) and value == lost_word(machine, views)
    return led_to(machine, value) in machine.ends() and led_to(read, value) not in read.ends()
