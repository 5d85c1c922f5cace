"""What a desk keeps at one time: things under names, claims under labels, and the states of these."""

from widefills.basics import copied
from widefills.claims import is_true
from widefills.commands import CLAIMS, SORTS
from widefills.errors import FillError, LimitError, MissingError, UnknownName
from widefills.tables import Table


class Keeping:
    """Things by names, tuples of a sort and the thing; by labels the words of claims, and truths, the states of these.

    What is kept never changes: a deed puts another Keeping in the place of this one.
    """

    def __init__(self, things, claims, truths):
        self.things = things
        self.claims = claims
        self.truths = truths


def thing_of(things, name, sort):
    """The thing of this sort that is kept under the name, lists new."""
    if name not in things or things[name][0] != sort:
        raise UnknownName(name)
    return copied(things[name][1])


def claim_told(things, words):
    """The claim of these words as a tuple, with the things that are kept now."""
    parts = [int(text) if kind == "count" else thing_of(things, text, kind)
             for kind, text in zip(CLAIMS[words[0]], words[1:])]
    if words[0] in ("alike", "unlike", "exact", "inexact"):
        return (words[0], *parts)
    table, rest = Table([parts[0]]), parts[1:]
    if words[0] in ("right", "wrong"):
        many, pattern, lots = rest
        return words[0], table, many, [(pattern, 0)], lots
    return (words[0], table, 0, *rest)


def state_word(truth):
    """The state of a claim that is true, or is not."""
    return "true" if truth else "false"


def state_told(things, words):
    """The state of the claim of these words, with the things that are kept now."""
    try:
        return state_word(is_true(claim_told(things, words)))
    except (FillError, MissingError, LimitError):
        return "gone"


def names_of_claim(words):
    """The names that stand in the words of a claim."""
    return [text for kind, text in zip(CLAIMS[words[0]], words[1:]) if kind in SORTS]


def with_things(keeping, things):
    """What is kept with these things: the states of those claims are looked at whose things are others now."""
    truths = {}
    for label, words in keeping.claims.items():
        names = names_of_claim(words)
        if all([keeping.things.get(name) == things.get(name) for name in names]):
            truths[label] = keeping.truths[label]
        else:
            truths[label] = state_told(things, words)
    return Keeping(things, keeping.claims, truths)


def with_thing(keeping, name, sort, thing):
    """What is kept with the thing under this name."""
    return with_things(keeping, {**keeping.things, name: (sort, thing)})


def without_thing(keeping, name):
    """What is kept without what is under this name."""
    return with_things(keeping, {one: thing for one, thing in keeping.things.items() if one != name})


def with_claim(keeping, label, words, state):
    """What is kept with the claim of these words under this label."""
    return Keeping(keeping.things, {**keeping.claims, label: words}, {**keeping.truths, label: state})


def without_claim(keeping, label):
    """What is kept without the claim under this label."""
    claims = {one: words for one, words in keeping.claims.items() if one != label}
    return Keeping(keeping.things, claims, {one: keeping.truths[one] for one in claims})


def written_states(truths, labels):
    """The labels with their states, sorted, `-` without labels."""
    return ", ".join([f"{label} {truths[label]}" for label in sorted(labels)]) if labels else "-"


def changes(before, after):
    """The labels with another state than before, written."""
    return written_states(after.truths, [label for label, state in after.truths.items()
                                         if label not in before.truths or before.truths[label] != state])
