"""What written texts tell."""

from widefills.errors import FillError, InvalidText
from widefills.fillings import is_filling
from widefills.guessers import Guesser
from widefills.machines import Machine
from widefills.patterns import is_pattern_of
from widefills.pieces import guesser_told, lots_told, machine_told, pattern_told, views_told, word_told
from widefills.tables import check_table
from widefills.views import are_views
from widefills.words import check_letters, is_word_of


def parse_word(letters, text):
    """The word that the text tells."""
    check_letters(letters)
    word = word_told(text)
    if not is_word_of(letters, word):
        raise InvalidText(None)
    return word


def parse_machine(text):
    """The Machine that the text tells."""
    return machine_by(machine_told(text))


def machine_by(told):
    """The Machine with these letters, steps and ends."""
    letters, steps, ends = told
    try:
        return Machine(letters, steps, ends)
    except FillError:
        raise InvalidText(None) from None


def parse_pattern(letters, text):
    """The pattern that the text tells."""
    check_letters(letters)
    pattern = pattern_told(text)
    if not is_pattern_of(letters, pattern):
        raise InvalidText(None)
    return pattern


def parse_lots(table, text):
    """The lots of classes, rising lists, that the text tells."""
    check_table(table)
    lots = lots_told(text)
    if not is_filling(table, lots):
        raise InvalidText(None)
    return [sorted(lot) for lot in lots]


def parse_guesser(text):
    """The Guesser that the text tells."""
    letters, steps, begins, ends = guesser_told(text)
    try:
        return Guesser(letters, steps, begins, ends)
    except FillError:
        raise InvalidText(None) from None


def parse_views(text):
    """The list of Machines that the text tells."""
    views = [machine_by(told) for told in views_told(text)]
    if not are_views(views):
        raise InvalidText(None)
    return views
