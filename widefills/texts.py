"""Words, machines, patterns, lots, guessers and views as written texts."""

from widefills.fillings import check_lots
from widefills.guessers import check_guesser
from widefills.machines import check_machine
from widefills.patterns import check_pattern
from widefills.tables import check_table
from widefills.views import check_views
from widefills.words import check_letters, check_word

NAME_SIGNS = "XYZ"
DIVIDERS = {"behind": ".", "either": "|"}


def word_text(letters, word):
    """The word written."""
    check_letters(letters)
    check_word(letters, word)
    return written_word(word)


def written_word(word):
    """The signs of a word, of whatever length, `-` if it is empty."""
    return word if word else "-"


def written_numbers(numbers, divider):
    """A list of numbers, written with the divider between, `-` if it is empty."""
    return divider.join([str(number) for number in numbers]) if numbers else "-"


def written_lists(lists, divider):
    """Lists of numbers, each written, with the divider between."""
    return divider.join([written_numbers(numbers, ",") for numbers in lists])


def machine_text(machine):
    """The machine written."""
    check_machine(machine)
    return f"{machine.letters}: {written_lists(machine.steps(), '; ')} / {written_numbers(machine.ends(), ',')}"


def pattern_text(letters, pattern):
    """The pattern written."""
    check_letters(letters)
    check_pattern(letters, pattern)
    return written_pattern(pattern)


def written_pattern(pattern):
    """The same, of what is known to be right."""
    kind = pattern[0]
    if kind == "word":
        return written_word(pattern[1])
    if kind == "name":
        return NAME_SIGNS[pattern[1]]
    parts = [written_pattern(part) for part in pattern[1:]]
    if kind == "round":
        return parts[0] + "*"
    return f"({parts[0]}{DIVIDERS[kind]}{parts[1]})"


def lots_text(table, lots):
    """The lots written, each rising."""
    check_table(table)
    check_lots(table, lots)
    return written_lists([sorted(lot) for lot in lots], "; ")


def guesser_text(guesser):
    """The guesser written."""
    check_guesser(guesser)
    rows = [",".join([written_numbers(lot, "+") for lot in row]) for row in guesser.steps()]
    steps = "; ".join(rows) if rows else "none"
    begins, ends = written_numbers(guesser.begins(), ","), written_numbers(guesser.ends(), ",")
    return f"{guesser.letters}: {begins} / {steps} / {ends}"


def views_text(views):
    """The views written."""
    check_views(views)
    return " & ".join([machine_text(view) for view in views])
