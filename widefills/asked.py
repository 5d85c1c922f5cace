"""What the commands that are no deeds answer, and what the parts of all commands stand for."""

from widefills.answers import lost_word
from widefills.commands import SORTS
from widefills.errors import LabelTaken, NameTaken, UnknownLabel, UnknownName
from widefills.fewest import fewest
from widefills.greatest import greatest
from widefills.keeping import thing_of, written_states
from widefills.machines import lets, shortest
from widefills.makings import is_within, parting
from widefills.mades import is_made
from widefills.pairs import pairs
from widefills.readings import stays_within
from widefills.roots import is_round
from widefills.tables import Table
from widefills.texts import guesser_text, machine_text, views_text, written_lists, written_pattern, written_word
from widefills.views import is_sure


def stood_for(keeping, parts):
    """What each of the parts of a command stands for, where names are what is kept under them."""
    found = []
    for kind, told in parts:
        sort = found[-1][0] if kind == "like" else kind
        found.append(meant(keeping, sort, told))
    return found


def meant(keeping, kind, told):
    """What a part of this kind stands for: of NAME a tuple of its sort and the thing."""
    if kind == "new" and told in keeping.things:
        raise NameTaken(told)
    if kind == "new label" and told in keeping.claims:
        raise LabelTaken(told)
    if kind == "label" and told not in keeping.claims:
        raise UnknownLabel(told)
    if kind == "name":
        if told not in keeping.things:
            raise UnknownName(told)
        return keeping.things[told][0], thing_of(keeping.things, told, keeping.things[told][0])
    if kind == "machines":
        return [thing_of(keeping.things, name, "machine") for name in told]
    return thing_of(keeping.things, told, kind) if kind in SORTS else told


def yes_or_no(truth):
    """The answer of what is so, or is not."""
    return "yes" if truth else "no"


def word_or_none(word):
    """The word written, `none` if there is none."""
    return "none" if word is None else written_word(word)


def written(sort, thing):
    """The thing as a text."""
    if sort == "filling":
        return written_lists(thing, "; ")
    writers = {"machine": machine_text, "pattern": written_pattern, "guesser": guesser_text, "views": views_text}
    writer = writers[sort]
    return writer(thing)


def filled(machine, many, pattern):
    """All greatest fillings of the pattern, written, `none` for none."""
    fillings = greatest(Table([machine]), many, [(pattern, 0)])
    return " ".join([written_lists(lots, ";") for lots in fillings]) if fillings else "none"


def answer_of_kept(keeping, words, told):
    """The answer to a command about what is kept; None to another one."""
    word = words[0]
    if word == "state":
        return keeping.truths[words[1]]
    if word == "states":
        return written_states(keeping.truths, list(keeping.truths))
    if word == "claimed":
        return " ".join(keeping.claims[words[1]])
    if word == "names":
        return " ".join(sorted(list(keeping.things))) if keeping.things else "-"
    if word == "show":
        return written(told[0][0], told[0][1])
    return yes_or_no(told[0][1] == told[1]) if word == "same" else None


def answer_asked(keeping, words, told):
    """The answer to a command that is no deed, neither undo nor redo."""
    answer = answer_of_kept(keeping, words, told)
    if answer is not None:
        return answer
    word = words[0]
    tellers = {"lets": lets, "inside": is_within, "round": is_round, "sure": is_sure, "right": stays, "made": makes}
    if word in tellers:
        teller = tellers[word]
        return yes_or_no(teller(*told))
    finders = {"parting": parting, "first": shortest, "lost": lost_word}
    if word in finders:
        finder = finders[word]
        return word_or_none(finder(*told))
    if word == "fill":
        return filled(told[0], told[1], told[2])
    return answer_of_table(word, Table([told[0]]))


def answer_of_table(word, table):
    """The answer to a command about the table of a machine."""
    if word == "classes":
        return ",".join([written_word(first) for first in table.words()])
    return str(len(pairs(table, 0)) if word == "pairs" else fewest(table, 0))


def stays(machine, pattern, lots):
    """Whether all that the pattern makes with the lots is let by the machine."""
    return stays_within(Table([machine]), 0, pattern, lots)


def makes(machine, pattern):
    """Whether the machine's lot is made by the pattern."""
    return is_made(Table([machine]), 0, pattern)
