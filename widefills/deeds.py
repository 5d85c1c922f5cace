"""What deeds make, and what is kept behind them."""

from widefills.answers import answer
from widefills.claims import is_true
from widefills.errors import InvalidPattern, InvalidPosition, InvalidViews, NoneThere, TooMany
from widefills.guessers import Guesser, of_use, tells
from widefills.keeping import claim_told, state_word, with_claim, with_thing, without_claim, without_thing
from widefills.lots import lot_machine
from widefills.machines import Machine
from widefills.makings import behind, joined, met, of_words, rounds, without
from widefills.patterns import is_pattern_of, made_lot
from widefills.roots import root
from widefills.tables import Table
from widefills.universals import part, universal
from widefills.views import are_views
from widefills.words import SIGNS

MOST_KEPT = 12
# Of each deed with a new name the sort of what it makes.
MADE = {
    "machine": "machine", "pattern": "pattern", "filling": "filling", "guesser": "guesser", "words": "machine",
    "views": "views", "joined": "machine", "met": "machine", "without": "machine", "behind": "machine",
    "rounds": "machine", "root": "machine", "make": "machine", "answer": "machine", "tells": "machine",
    "all": "guesser", "part": "guesser", "use": "guesser", "row": "pattern", "either": "pattern", "star": "pattern",
}


def machine_made(told):
    """The Machine with these letters, steps and ends."""
    letters, steps, ends = told
    return Machine(letters, steps, ends)


def guesser_made(told):
    """The Guesser with these letters, steps, begins and ends."""
    letters, steps, begins, ends = told
    return Guesser(letters, steps, begins, ends)


def checked(pattern):
    """The pattern: InvalidPattern unless it is one of three letters."""
    if not is_pattern_of(len(SIGNS), pattern):
        raise InvalidPattern(pattern)
    return pattern


def viewed(machines):
    """The machines: InvalidViews unless they are views."""
    if not are_views(machines):
        raise InvalidViews(machines)
    return machines


def rooted(machine):
    """The Machine of the root: NoneThere if there is none."""
    found = root(machine)
    if found is None:
        raise NoneThere()
    return found


def made_by(machine, pattern, lots):
    """The Machine of the lot that the pattern makes, of the classes of the machine's table."""
    table = Table([machine])
    return lot_machine(table, made_lot(table, pattern, lots))


def one_of(machine):
    """The one machine, of the machine's table."""
    return universal(Table([machine]), 0)


def part_of(machine, places):
    """The part of these places, of the machine's table."""
    return part(Table([machine]), 0, places)


def told_lots(lots):
    """The lots, as they are told."""
    return lots


def rowed(pattern, other):
    """The pattern of one behind the other."""
    return checked(("behind", pattern, other))


def eithered(pattern, other):
    """The pattern of either one."""
    return checked(("either", pattern, other))


def starred(pattern):
    """The pattern of the rounds."""
    return checked(("round", pattern))


def thing_made(word, told):
    """What the deed with this word makes of what its parts tell."""
    makers = {
        "machine": machine_made, "pattern": checked, "filling": told_lots, "guesser": guesser_made, "words": of_words,
        "views": viewed, "joined": joined, "met": met, "without": without, "behind": behind, "rounds": rounds,
        "root": rooted, "make": made_by, "answer": answer, "tells": tells, "all": one_of, "part": part_of,
        "use": of_use, "row": rowed, "either": eithered, "star": starred,
    }
    maker = makers[word]
    return maker(*told)


def changed_machine(word, machine, words):
    """The machine, joined with or without what is made of the words."""
    other = of_words(machine.letters, words)
    return joined(machine, other) if word == "more" else without(machine, other)


def changed_lots(word, lots, place, one):
    """The lots, the class in the lot at the place, or no longer."""
    if place >= len(lots):
        raise InvalidPosition(place)
    rest = [other for other in lots[place] if other != one]
    if word == "grow":
        rest = lots[place] if one in lots[place] else lots[place] + [one]
    return lots[:place] + [rest] + lots[place + 1:]


def kept_behind(keeping, words, told):
    """What is kept behind a deed, by its words and by what its parts tell, names being what is kept under them."""
    word, name = words[0], words[1]
    if word == "claim":
        return kept_with_claim(keeping, name, tuple(words[2:]))
    if word == "forget":
        return without_claim(keeping, name)
    if word == "drop":
        return without_thing(keeping, name)
    if word in ("more", "less"):
        return with_thing(keeping, name, "machine", changed_machine(word, told[0], told[1]))
    if word in ("grow", "shrink"):
        return with_thing(keeping, name, "filling", changed_lots(word, told[0], told[1], told[2]))
    sort, thing = told[1] if word == "copy" else (MADE[word], thing_made(word, told[1:]))
    if len(keeping.things) >= MOST_KEPT:
        raise TooMany("names", MOST_KEPT)
    return with_thing(keeping, name, sort, thing)


def kept_with_claim(keeping, label, words):
    """What is kept with the claim of these words under the label."""
    state = state_word(is_true(claim_told(keeping.things, words)))
    if len(keeping.claims) >= MOST_KEPT:
        raise TooMany("labels", MOST_KEPT)
    return with_claim(keeping, label, words, state)
