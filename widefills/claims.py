"""Claims, their contraries, and the papers that show which one of both is true."""

from widefills.answers import is_exact
from widefills.basics import copied, is_below
from widefills.errors import InvalidClaim
from widefills.fillings import are_lots, is_filling, is_many
from widefills.greatest import are_sayings, is_right, reach
from widefills.guessers import Guesser, is_telling
from widefills.machines import Machine
from widefills.mades import is_made
from widefills.papers import is_paper_for, paper_for
from widefills.patterns import are_alike, are_names_below, is_pattern_of
from widefills.readings import stays_within
from widefills.tables import Table
from widefills.views import are_views
from widefills.words import is_letters

ROWS = (("within", "outside"), ("alike", "unlike"), ("right", "wrong"), ("made", "unmade"), ("told", "mistold"),
        ("exact", "inexact"))
# How many parts stand behind the word of each row.
MANY_PARTS = (4, 3, 4, 3, 3, 2)


def claim_words():
    """The list of the tuples of the two words of each row."""
    return list(ROWS)


def is_position_of(table, position):
    """Whether the first value is a Table, and the second one a position of one of its machines."""
    return isinstance(table, Table) and is_below(position, len(table.machines()))


def may_be_within(table, position, pattern, lots):
    """Whether these are the parts of a claim that lots stay within a machine."""
    if not may_be_made(table, position, pattern):
        return False
    return is_filling(table, lots) and are_names_below(pattern, len(lots))


def may_be_alike(letters, pattern, other):
    """Whether these are the parts of a claim that patterns are alike."""
    return is_letters(letters) and is_pattern_of(letters, pattern) and is_pattern_of(letters, other)


def may_be_right(table, many, sayings, lots):
    """Whether these are the parts of a claim that lots are right."""
    if not isinstance(table, Table) or not is_many(many) or not are_sayings(table, sayings):
        return False
    return reach(sayings, many) and are_lots(table, lots) and len(lots) == many


def may_be_made(table, position, pattern):
    """Whether these are the parts of a claim that a machine's lot is made."""
    return is_position_of(table, position) and is_pattern_of(table.letters, pattern)


def may_be_told(table, position, guesser):
    """Whether these are the parts of a claim that a guesser tells a machine."""
    return is_position_of(table, position) and isinstance(guesser, Guesser) and guesser.letters == table.letters


def may_be_exact(machine, views):
    """Whether these are the parts of a claim that views are exact."""
    return isinstance(machine, Machine) and are_views(views) and views[0].letters == machine.letters


def row_of(word):
    """The position of the row that has the word, None if none has."""
    for row, both in enumerate(ROWS):
        if isinstance(word, str) and word in both:
            return row
    return None


def is_claim(value):
    """Whether the value is a claim."""
    if not isinstance(value, tuple) or len(value) == 0:
        return False
    row, parts = row_of(value[0]), value[1:]
    if row is None or len(parts) != MANY_PARTS[row]:
        return False
    tellers = (may_be_within, may_be_alike, may_be_right, may_be_made, may_be_told, may_be_exact)
    teller = tellers[row]
    return teller(*parts)


def check_claim(claim):
    """Raise unless this is a claim."""
    if not is_claim(claim):
        raise InvalidClaim(claim)


def tells_machine(table, position, guesser):
    """Whether the guesser tells just what the machine lets."""
    return is_telling(guesser, table.machines()[position])


def is_true(claim):
    """Whether the claim is true."""
    check_claim(claim)
    row, parts = row_of(claim[0]), claim[1:]
    deciders = (stays_within, are_alike, is_right_of_many, is_made, tells_machine, is_exact)
    decider = deciders[row]
    return decider(*parts) == (claim[0] == ROWS[row][0])


def is_right_of_many(table, _, sayings, lots):
    """Whether the lots, as many as told, are right."""
    return is_right(table, sayings, lots)


def contrary(claim):
    """The contrary claim, with new lists and tuples."""
    check_claim(claim)
    first, second = ROWS[row_of(claim[0])]
    parts = copied(claim[1:])
    return (second if claim[0] == first else first, *parts)


def paper_of(claim):
    """A paper of the claim, None if it is not true, or if its kind has none."""
    check_claim(claim)
    return paper_for(claim[0], claim[1:])


def is_paper_of(claim, value):
    """Whether the value is a paper of the claim."""
    check_claim(claim)
    return is_paper_for(claim[0], claim[1:], value)
