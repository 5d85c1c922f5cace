"""Patterns of words and names, and what they make."""

from widefills.basics import is_below, is_listing
from widefills.errors import InvalidFilling, InvalidPattern
from widefills.fillings import MOST_NAMES, check_lots
from widefills.lots import behind_lots, rounds_lot
from widefills.machines import Machine
from widefills.makings import behind, joined, of_words, rounds
from widefills.mixed import first_parting, makes_mixed
from widefills.tables import check_table, class_behind
from widefills.words import LONGEST_WORD, SIGNS, check_letters, is_word_of

DEEPEST = 9
MOST_PARTS = 30
# How many patterns are within each of these kinds.
WITHIN = {"behind": 2, "either": 2, "round": 1}


def parts_of(letters, value, deep):
    """How many parts the value has, if it is a pattern at most so deep; else None."""
    if deep == 0 or not isinstance(value, tuple) or len(value) < 2 or not isinstance(value[0], str):
        return None
    kind = value[0]
    if kind == "word":
        return 1 if len(value) == 2 and is_word_of(letters, value[1]) else None
    if kind == "name":
        return 1 if len(value) == 2 and is_below(value[1], MOST_NAMES) else None
    if WITHIN.get(kind) != len(value) - 1:
        return None
    many = [parts_of(letters, part, deep - 1) for part in value[1:]]
    return None if None in many else 1 + sum(many)


def is_pattern_of(letters, value):
    """Whether the value is a pattern for the letters, which are known to be right."""
    many = parts_of(letters, value, DEEPEST)
    return many is not None and many <= MOST_PARTS


def is_pattern(letters, value):
    """Whether the value is a pattern for so many letters."""
    check_letters(letters)
    return is_pattern_of(letters, value)


def check_pattern(letters, pattern):
    """Raise unless this is a pattern for the letters, which are known to be right."""
    if not is_pattern_of(letters, pattern):
        raise InvalidPattern(pattern)


def names_in(pattern):
    """The rising list of the names in the pattern."""
    if pattern[0] == "word":
        return []
    if pattern[0] == "name":
        return [pattern[1]]
    return sorted({name for part in pattern[1:] for name in names_in(part)})


def names_of(letters, pattern):
    """The rising list of the names in the pattern."""
    check_letters(letters)
    check_pattern(letters, pattern)
    return names_in(pattern)


def are_names_below(pattern, many):
    """Whether all names in the pattern are below so many."""
    return all([name < many for name in names_in(pattern)])


def check_reached(pattern, filling):
    """Raise unless all names in the pattern are filled, by lots or by Machines."""
    if not are_names_below(pattern, len(filling)):
        raise InvalidFilling(filling)


def check_filling(letters, filling):
    """Raise unless this is a list of 1 to 3 Machines of the letters."""
    if not is_listing(filling) or not 1 <= len(filling) <= MOST_NAMES:
        raise InvalidFilling(filling)
    if not all([isinstance(machine, Machine) and machine.letters == letters for machine in filling]):
        raise InvalidFilling(filling)


def made(letters, pattern, filling):
    """The Machine of what the pattern makes with the filling."""
    check_letters(letters)
    check_pattern(letters, pattern)
    check_filling(letters, filling)
    check_reached(pattern, filling)
    return made_machine(letters, pattern, filling)


def made_machine(letters, pattern, filling):
    """The same, of what is known to be right."""
    if pattern[0] == "word":
        return of_words(letters, [pattern[1]])
    if pattern[0] == "name":
        return filling[pattern[1]]
    parts = [made_machine(letters, part, filling) for part in pattern[1:]]
    if pattern[0] == "behind":
        return behind(parts[0], parts[1])
    return joined(parts[0], parts[1]) if pattern[0] == "either" else rounds(parts[0])


def made_lot(table, pattern, lots):
    """The lot of all classes that have a word which the pattern makes with the lots."""
    check_table(table)
    check_pattern(table.letters, pattern)
    check_lots(table, lots)
    check_reached(pattern, lots)
    return lot_made(table, pattern, lots)


def lot_made(table, pattern, lots):
    """The same, of what is known to be right."""
    if pattern[0] == "word":
        return [class_behind(table.class_steps, 0, pattern[1])]
    if pattern[0] == "name":
        return sorted(lots[pattern[1]])
    parts = [lot_made(table, part, lots) for part in pattern[1:]]
    if pattern[0] == "behind":
        return behind_lots(table, parts[0], parts[1])
    return sorted({one for part in parts for one in part}) if pattern[0] == "either" else rounds_lot(table, parts[0])


def is_thing(letters, value):
    """Whether the value may stand in a mixed word: a sign of the letters, or a name."""
    if isinstance(value, str):
        return len(value) == 1 and value in SIGNS[:letters]
    return is_below(value, MOST_NAMES)


def is_mixed(letters, pattern, value):
    """Whether the value is a mixed word that the pattern makes."""
    check_letters(letters)
    check_pattern(letters, pattern)
    if not is_listing(value) or len(value) > LONGEST_WORD or not all([is_thing(letters, thing) for thing in value]):
        return False
    numbers = [SIGNS.index(thing) if isinstance(thing, str) else letters + thing for thing in value]
    return makes_mixed(letters, pattern, numbers)


def are_alike(letters, pattern, other):
    """Whether both patterns make the same lot with each filling."""
    return mixed_parting(letters, pattern, other) is None


def mixed_parting(letters, pattern, other):
    """The first mixed word that just one of both patterns makes, None if they are alike."""
    check_letters(letters)
    check_pattern(letters, pattern)
    check_pattern(letters, other)
    numbers = first_parting(letters, pattern, other)
    if numbers is None:
        return None
    return [SIGNS[thing] if thing < letters else thing - letters for thing in numbers]
