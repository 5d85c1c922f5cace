"""Guessers: machines with several begins, and a lot of next states for each state and letter."""

from widefills.basics import are_unlike_below, is_below, is_listing
from widefills.errors import InvalidBegins, InvalidEnds, InvalidGuesser, InvalidState, InvalidSteps
from widefills.fillings import mask_of
from widefills.makings import told_by_guesses
from widefills.subsets import alive, leading_to, led_from, let_beyond, no_weight, stepped, told_beyond
from widefills.words import SIGNS, check_letters

GREATEST_GUESSER = 40


class Guesser:
    """A guessing machine: a word is told if some way of states by its signs leads from a begin to an end."""

    def __init__(self, letters, steps, begins, ends):
        check_letters(letters)
        if not are_guessed_steps(letters, steps):
            raise InvalidSteps(steps)
        if not are_unlike_below(begins, len(steps)):
            raise InvalidBegins(begins)
        if not are_unlike_below(ends, len(steps)):
            raise InvalidEnds(ends)
        self._letters = letters
        self._steps = [[sorted(lot) for lot in row] for row in steps]
        self._begins = sorted(begins)
        self._ends = sorted(ends)

    @property
    def letters(self):
        """How many letters there are."""
        return self._letters

    @property
    def states(self):
        """How many states there are."""
        return len(self._steps)

    def steps(self):
        """For each state, for each letter, the rising list of the next states."""
        return [[list(lot) for lot in row] for row in self._steps]

    def begins(self):
        """The rising list of the begins."""
        return list(self._begins)

    def ends(self):
        """The rising list of the ends."""
        return list(self._ends)

    def __eq__(self, other):
        return (isinstance(other, Guesser) and self._letters == other._letters and self._steps == other._steps
                and self._begins == other._begins and self._ends == other._ends)


def are_guessed_steps(letters, value):
    """Whether the value tells for each of 0 to 40 states, for each letter, a lot of next states."""
    if not is_listing(value) or len(value) > GREATEST_GUESSER:
        return False
    if not all([is_listing(row) and len(row) == letters for row in value]):
        return False
    return all([are_unlike_below(lot, len(value)) for row in value for lot in row])


def check_guesser(guesser):
    """Raise unless this is a Guesser."""
    if not isinstance(guesser, Guesser):
        raise InvalidGuesser(guesser)


def step_masks(guesser):
    """For each letter, for each state, the next states as an integer, a bit for each."""
    steps = guesser.steps()
    return [[mask_of(row[letter]) for row in steps] for letter in range(guesser.letters)]


def first_mistold(guesser, machine):
    """The first word, of whatever length, that is told and that the machine does not let; None if there is none."""
    return first_beyond(told_beyond, guesser, machine)


def first_untold(guesser, machine):
    """The first word, of whatever length, that the machine lets and that is not told; None if there is none."""
    return first_beyond(let_beyond, guesser, machine)


def first_beyond(beyond, guesser, machine):
    """The first word by whose letters one of both goes beyond the other."""
    ends = mask_of(guesser.ends())
    steps, begins = alive(step_masks(guesser), mask_of(guesser.begins()), ends)
    letters = beyond(steps, begins, ends, machine.steps(), machine.ends(), no_weight)
    return None if letters is None else "".join([SIGNS[letter] for letter in letters])


def is_telling(guesser, machine):
    """Whether the guesser tells just what the machine lets."""
    return first_mistold(guesser, machine) is None and first_untold(guesser, machine) is None


def is_told(guesser, word):
    """Whether the guesser tells the word of its letters."""
    steps, states = step_masks(guesser), mask_of(guesser.begins())
    for sign in word:
        states = stepped(steps[SIGNS.index(sign)], states)
    return bool(states & mask_of(guesser.ends()))


def tells(guesser):
    """The Machine that lets just the words that the guesser tells."""
    check_guesser(guesser)
    begins, ends = mask_of(guesser.begins()), mask_of(guesser.ends())
    return told_by_guesses(guesser.letters, step_masks(guesser), begins, ends)


def states_of_use(guesser):
    """The rising list of the states of use."""
    steps = step_masks(guesser)
    useful = led_from(steps, mask_of(guesser.begins())) & leading_to(steps, mask_of(guesser.ends()))
    return [state for state in range(guesser.states) if (useful >> state) & 1]


def is_of_use(guesser):
    """Whether all states are of use."""
    check_guesser(guesser)
    return len(states_of_use(guesser)) == guesser.states


def of_use(guesser):
    """The Guesser of the states of use alone, in their sequence."""
    check_guesser(guesser)
    kept = states_of_use(guesser)
    places = {state: place for place, state in enumerate(kept)}
    return placed(guesser, places)


def placed(guesser, places):
    """The Guesser of the states that have places, by these; states may have one place in common."""
    many = len(set(list(places.values())))
    steps = [[[] for _ in range(guesser.letters)] for _ in range(many)]
    for state, row in enumerate(guesser.steps()):
        if state in places:
            for letter, lot in enumerate(row):
                steps[places[state]][letter].extend(places_of(lot, places))
    steps = [[sorted(set(lot)) for lot in row] for row in steps]
    return Guesser(guesser.letters, steps, places_of(guesser.begins(), places), places_of(guesser.ends(), places))


def places_of(states, places):
    """The rising list of the places of those of the states that have any."""
    return sorted({places[state] for state in states if state in places})


def merged(guesser, near, far):
    """The Guesser with both states made one."""
    check_guesser(guesser)
    if not is_below(near, guesser.states):
        raise InvalidState(near)
    if not is_below(far, guesser.states) or far == near:
        raise InvalidState(far)
    first, last = min(near, far), max(near, far)
    places = {state: state - 1 if state > last else state for state in range(guesser.states)}
    places[last] = first
    return placed(guesser, places)
