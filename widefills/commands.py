"""The commands of a desk: their words, and the parts behind these."""

from widefills.errors import InvalidText
from widefills.pieces import FIGURES, guesser_told, lots_told, machine_told, pattern_told, word_told

LONGEST_NAME = 8
LONGEST_TEXT = 120
MOST_DIGITS = 2
MOST_WORDS = 8
MOST_MACHINES = 3
SMALL_LETTERS = "abcdefghijklmnopqrstuvwxyz"

# Of each command what kinds of parts stand behind its word. Those of SORTS are names under which such a thing is kept.
SORTS = ("machine", "pattern", "filling", "guesser", "views")
DEEDS = {
    "machine": ("new", "machine text"), "pattern": ("new", "pattern text"), "filling": ("new", "filling text"),
    "guesser": ("new", "guesser text"), "words": ("new", "count", "words"), "views": ("new", "machines"),
    "joined": ("new", "machine", "machine"), "met": ("new", "machine", "machine"),
    "without": ("new", "machine", "machine"), "behind": ("new", "machine", "machine"),
    "rounds": ("new", "machine"), "root": ("new", "machine"), "make": ("new", "machine", "pattern", "filling"),
    "answer": ("new", "machine", "views"), "tells": ("new", "guesser"), "all": ("new", "machine"),
    "part": ("new", "machine", "places"), "use": ("new", "guesser"), "row": ("new", "pattern", "pattern"),
    "either": ("new", "pattern", "pattern"), "star": ("new", "pattern"), "more": ("machine", "words"),
    "less": ("machine", "words"), "grow": ("filling", "count", "count"), "shrink": ("filling", "count", "count"),
    "copy": ("new", "name"), "drop": ("name",), "forget": ("label",),
}
OTHERS = {
    "undo": (), "redo": (), "state": ("label",), "states": (), "claimed": ("label",), "names": (), "show": ("name",),
    "same": ("name", "like"), "lets": ("machine", "word"), "inside": ("machine", "machine"), "round": ("machine",),
    "right": ("machine", "pattern", "filling"), "made": ("machine", "pattern"), "sure": ("machine", "views", "word"),
    "parting": ("machine", "machine"), "first": ("machine",), "lost": ("machine", "views"), "classes": ("machine",),
    "pairs": ("machine",), "fewest": ("machine",), "fill": ("machine", "count", "pattern"),
}
# The same of each word behind `claim LABEL`.
CLAIMS = {
    "within": ("machine", "pattern", "filling"), "outside": ("machine", "pattern", "filling"),
    "alike": ("count", "pattern", "pattern"), "unlike": ("count", "pattern", "pattern"),
    "right": ("machine", "count", "pattern", "filling"), "wrong": ("machine", "count", "pattern", "filling"),
    "made": ("machine", "pattern"), "unmade": ("machine", "pattern"), "told": ("machine", "guesser"),
    "mistold": ("machine", "guesser"), "exact": ("machine", "views"), "inexact": ("machine", "views"),
}


def is_name(value):
    """Whether the value is a name: one to eight small letters and digits, the first one a letter."""
    if not isinstance(value, str) or not 1 <= len(value) <= LONGEST_NAME or value[0] not in SMALL_LETTERS:
        return False
    return all([sign in SMALL_LETTERS + FIGURES for sign in value])


def is_command(value):
    """Whether the value is a command by its words alone."""
    return command_told(value) is not None


def is_deed(value):
    """Whether the value is a command that is a deed."""
    told = command_told(value)
    return told is not None and is_deed_word(told[0])


def is_deed_word(word):
    """Whether commands with this word are deeds."""
    return word == "claim" or word in DEEDS


def command_told(value):
    """The word of a command, and its parts, tuples of a kind and what is told; None of what is no command."""
    if not isinstance(value, str):
        return None
    words = value.split(" ")
    kinds = kinds_of(words)
    if kinds is None or len(kinds) != len(words) - 1:
        return None
    parts = [(kind, part_told(kind, text)) for kind, text in zip(kinds, words[1:])]
    return None if None in [told for _, told in parts] else (words[0], parts)


def kinds_of(words):
    """The kinds of the parts of a command, by its words; None if there is no such command."""
    if words[0] == "claim" and len(words) > 2 and words[2] in CLAIMS:
        return ("new label", "claim word") + CLAIMS[words[2]]
    if words[0] in DEEDS:
        return DEEDS[words[0]]
    return OTHERS.get(words[0])


def part_told(kind, text):
    """What a part of this kind tells, None if it is no such part."""
    if kind == "claim word":
        return text
    if kind == "count":
        return count_told(text)
    if kind == "places":
        return [] if text == "-" else all_told(count_told, text, len(text))
    if kind == "words":
        return all_told(short_word_told, text, MOST_WORDS)
    if kind == "machines":
        return all_told(name_told, text, MOST_MACHINES)
    readers = {"word": word_told, "machine text": machine_told, "pattern text": pattern_told,
               "filling text": lots_told, "guesser text": guesser_told}
    return read_by(readers[kind], text) if kind in readers else name_told(text)


def all_told(teller, text, most):
    """The list of what one to so many parts tell, with a comma between; None if there are others."""
    found = [teller(part) for part in text.split(",")]
    return None if None in found or len(found) > most else found


def count_told(text):
    """The COUNT of at most two digits, without needless noughts, None of other texts."""
    if not 1 <= len(text) <= MOST_DIGITS or not all([sign in FIGURES for sign in text]):
        return None
    return None if text[0] == "0" and len(text) > 1 else int(text)


def name_told(text):
    """The name, None of what is none."""
    return text if is_name(text) else None


def short_word_told(text):
    """The word of a text that is not too long, None if it tells none."""
    return read_by(word_told, text)


def read_by(reader, text):
    """What the reader makes of a text that is not too long, None if it is not readable."""
    if len(text) > LONGEST_TEXT:
        return None
    try:
        return reader(text)
    except InvalidText:
        return None
