"""Exploring by letters, and least machines."""

from widefills.errors import TooMany
from widefills.words import SIGNS

GREATEST_STATES = 60


def explored(begin, letters, lead, what=None, limit=None):
    """The keys to which letters lead from the first one, and the steps between them, by the keys' places.

    The keys stand in the sequence of the first words that lead to them. lead(key, letter) is the next key.
    If a limit is told, TooMany of what is raised as soon as there are more keys: there may be endlessly many.
    """
    places, keys, steps = {begin: 0}, [begin], []
    while len(steps) < len(keys):
        row = []
        for letter in range(letters):
            after = lead(keys[len(steps)], letter)
            if after not in places:
                places[after] = len(keys)
                keys.append(after)
            row.append(places[after])
        steps.append(row)
        if limit is not None and len(keys) > limit:
            raise TooMany(what, limit)
    return keys, steps


def first_words_to(steps):
    """The first word that leads to each state, of steps whose states are numbered as explored does it."""
    words = {0: ""}
    for state, row in enumerate(steps):
        for sign, after in zip(SIGNS, row):
            words.setdefault(after, words[state] + sign)
    return [words[state] for state in range(len(steps))]


def numbered(marks):
    """A number for each mark, like ones for like marks, from 0 in the sequence in which they first come."""
    numbers = {}
    return [numbers.setdefault(mark, len(numbers)) for mark in marks]


def least_form(letters, steps, ends):
    """The steps and the ends of the least machine that lets the same words: TooMany if it has too many states."""
    def lead(state, letter):
        return steps[state][letter]

    stops = {state: True for state in ends}
    states, rows = explored(0, letters, lead)
    # Blocks hold the states that no short word tells apart. They are numbered by their first states, and these
    # stand in the sequence of first words: so the blocks have the numbers that the least machine's states have.
    blocks, many = numbered([state in stops for state in states]), 0
    while many != max(blocks) + 1:
        many = max(blocks) + 1
        if many > GREATEST_STATES:
            raise TooMany("states", GREATEST_STATES)
        blocks = numbered([(blocks[at], *[blocks[after] for after in row]) for at, row in enumerate(rows)])
    firsts = [blocks.index(block) for block in range(many)]
    least_steps = [[blocks[after] for after in rows[first]] for first in firsts]
    return least_steps, [block for block, first in enumerate(firsts) if states[first] in stops]
