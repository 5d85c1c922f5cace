"""The answer of views to a machine: all sure view words; and what the views do not tell."""

from widefills.machines import check_like_letters, machine_of
from widefills.makings import WANTED_OF_FIRST_ALONE, first_wanted
from widefills.subsets import least_of_guesses
from widefills.views import check_viewed, not_let, opened, view_steps


def check_like_views(machine, views):
    """Raise unless these are a Machine, and views with as many letters."""
    check_viewed(machine, views)
    check_like_letters(machine, views[0])


def answer(machine, views):
    """The Machine, over the views, of all sure view words."""
    check_like_views(machine, views)
    # Guessed are the view words with a reading that is not let.
    steps, ends = least_of_guesses(view_steps(machine, views), 1, not_let(machine))
    return machine_of(len(views), steps, [state for state in range(len(steps)) if state not in ends])


def told_by(machine, views):
    """The Machine of the answer, opened."""
    return opened(views, answer(machine, views))


def is_exact(machine, views):
    """Whether each word that the machine lets is a reading of some sure view word."""
    return told_by(machine, views) == machine


def lost_word(machine, views):
    """The first word that the machine lets and that is a reading of no sure view word, None if there is none."""
    return first_wanted(machine, told_by(machine, views), WANTED_OF_FIRST_ALONE)


def needless(machine, views):
    """The rising list of the positions of needless views."""
    check_like_views(machine, views)
    if len(views) == 1:
        return []
    whole = told_by(machine, views)
    others = [list(views[:position]) + list(views[position + 1:]) for position in range(len(views))]
    return [position for position, left in enumerate(others) if told_by(machine, left) == whole]
