"""Readings: how words are made by patterns, piece by piece."""

from widefills.basics import is_below, is_count, is_listing
from widefills.errors import InvalidReading
from widefills.fillings import MOST_NAMES, check_lots
from widefills.machines import led_to
from widefills.patterns import DEEPEST, check_filling, check_pattern, check_reached, lot_made
from widefills.tables import check_position, check_table, class_behind, passed
from widefills.words import SIGNS, check_letters, is_word_of


def is_any_reading(value, deep):
    """Whether the value is a reading at most so deep."""
    if deep == 0 or not isinstance(value, tuple) or not 2 <= len(value) <= 3 or not isinstance(value[0], str):
        return False
    kind, first, last = value[0], value[1], value[-1]
    if len(value) == 2:
        if kind == "word":
            return is_word_of(len(SIGNS), first)
        return kind == "round" and is_listing(first) and all([is_any_reading(part, deep - 1) for part in first])
    if kind == "name":
        return is_below(first, MOST_NAMES) and is_word_of(len(SIGNS), last)
    if kind == "either":
        return is_below(first, 2) and is_any_reading(last, deep - 1)
    return kind == "behind" and is_any_reading(first, deep - 1) and is_any_reading(last, deep - 1)


def read_word(reading):
    """The string that the reading reads."""
    if not is_any_reading(reading, DEEPEST):
        raise InvalidReading(reading)
    return read(reading)


def read(reading):
    """The same, of what is known to be right."""
    kind, last = reading[0], reading[-1]
    if kind in ("word", "name"):
        return last
    if kind == "behind":
        return read(reading[1]) + read(last)
    return read(last) if kind == "either" else "".join([read(part) for part in last])


def is_reading_of(pattern, value, is_piece):
    """Whether the value is a reading of the pattern with right pieces: is_piece(name, piece) tells which are."""
    kind = pattern[0]
    if not isinstance(value, tuple) or len(value) != (2 if kind in ("word", "round") else 3):
        return False
    if not isinstance(value[0], str) or value[0] != kind:
        return False
    first, last = value[1], value[-1]
    if kind == "word":
        return isinstance(last, str) and last == pattern[1]
    if kind == "name":
        return is_count(first) and first == pattern[1] and is_piece(first, last)
    if kind == "behind":
        return is_reading_of(pattern[1], first, is_piece) and is_reading_of(pattern[2], last, is_piece)
    if kind == "either":
        return is_below(first, 2) and is_reading_of(pattern[1 + first], last, is_piece)
    return is_listing(last) and all([is_reading_of(pattern[1], part, is_piece) for part in last])


def is_reading(letters, pattern, filling, value):
    """Whether the value is a reading of the pattern whose pieces are let by their names' Machines."""
    check_letters(letters)
    check_pattern(letters, pattern)
    check_filling(letters, filling)
    check_reached(pattern, filling)
    ends = [machine.ends() for machine in filling]

    def is_piece(name, piece):
        return is_word_of(letters, piece) and led_to(filling[name], piece) in ends[name]

    return is_reading_of(pattern, value, is_piece)


def check_made(table, position, pattern, lots):
    """Raise unless this is a machine of a table, and a pattern whose names the lots reach."""
    check_table(table)
    check_position(table, position)
    check_pattern(table.letters, pattern)
    check_lots(table, lots)
    check_reached(pattern, lots)


def stays_within(table, position, pattern, lots):
    """Whether all that the pattern makes with the lots is let by the machine."""
    check_made(table, position, pattern, lots)
    let = passed(table, position)
    return all([one in let for one in lot_made(table, pattern, lots)])


def outside(table, position, pattern, lots):
    """A reading of the pattern of a word that the machine doesn't let, None if there is none."""
    check_made(table, position, pattern, lots)
    return reading_outside(table, position, pattern, lots)


def reading_outside(table, position, pattern, lots):
    """The same, of what is known to be right."""
    let, how = passed(table, position), hows(table, pattern, lots)
    wrong = [one for one in how[0] if one not in let]
    return reading_by(table, pattern, how, wrong[0]) if wrong else None


def hows(table, pattern, lots):
    """For each class that is made of which classes of the inner parts it is; behind this the same of these parts.

    Of a "round" it is a list of classes, the shortest one: so no reading goes round more often than there are classes.
    """
    if pattern[0] == "word":
        return ({class_behind(table.class_steps, 0, pattern[1]): None},)
    if pattern[0] == "name":
        return ({one: None for one in sorted(lots[pattern[1]])},)
    parts = [hows(table, part, lots) for part in pattern[1:]]
    if pattern[0] == "round":
        return hows_of_rounds(table, parts[0][0]), parts[0]
    return hows_of_two(table, pattern[0], parts[0][0], parts[1][0]), parts[0], parts[1]


def hows_of_two(table, kind, near, far):
    """For each class of "behind" of which two classes it is; of "either" on which side it is, and itself."""
    found = {}
    if kind == "either":
        for place, part in ((0, near), (1, far)):
            for one in part:
                found.setdefault(one, (place, one))
        return found
    for one in near:
        for other in far:
            found.setdefault(table.products[one][other], (one, other))
    return found


def hows_of_rounds(table, part):
    """For each class of the rounds a shortest list of classes of the part whose words make it."""
    found, grown = {0: []}, [0]
    while grown:
        last, grown = grown, []
        for one in last:
            for other in part:
                after = table.products[one][other]
                if after not in found:
                    found[after] = found[one] + [other]
                    grown.append(after)
    return found


def reading_by(table, pattern, how, one):
    """A reading, new throughout, of a word of the class, as hows tells it."""
    kind = pattern[0]
    if kind == "word":
        return kind, pattern[1]
    if kind == "name":
        return kind, pattern[1], table.words()[one]
    made_of = how[0][one]
    if kind == "round":
        return kind, [reading_by(table, pattern[1], how[1], part) for part in made_of]
    if kind == "either":
        place, part = made_of
        return kind, place, reading_by(table, pattern[1 + place], how[1 + place], part)
    near, far = made_of
    return kind, reading_by(table, pattern[1], how[1], near), reading_by(table, pattern[2], how[2], far)


def is_outside(table, position, pattern, lots, value):
    """Whether the value is a reading, its pieces of the lots, of a word that the machine doesn't let."""
    check_made(table, position, pattern, lots)
    return is_reading_outside(table, position, pattern, lots, value)


def is_reading_outside(table, position, pattern, lots, value):
    """The same, but for the value, of what is known to be right."""
    def is_piece(name, piece):
        return is_word_of(table.letters, piece) and class_behind(table.class_steps, 0, piece) in lots[name]

    return (is_reading_of(pattern, value, is_piece)
            and class_read(table, value) not in passed(table, position))


def class_read(table, reading):
    """The class of the word that the reading reads."""
    kind, last = reading[0], reading[-1]
    if kind in ("word", "name"):
        return class_behind(table.class_steps, 0, last)
    if kind == "either":
        return class_read(table, last)
    found = 0
    for part in reading[1:] if kind == "behind" else last:
        found = table.products[found][class_read(table, part)]
    return found
