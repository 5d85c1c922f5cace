"""Machines, always told in their least form."""

from widefills.basics import are_unlike_below, is_below, is_listing
from widefills.errors import InvalidEnds, InvalidMachine, InvalidSteps, UnlikeLetters
from widefills.least import first_words_to, least_form
from widefills.words import SIGNS, check_length, check_letters, check_word, first_words

GREATEST_PASSED = 12


class Machine:
    """A machine over letters a, b, c, which lets a lot of words."""

    def __init__(self, letters, steps, ends):
        check_letters(letters)
        if not are_steps(letters, steps):
            raise InvalidSteps(steps)
        if not are_unlike_below(ends, len(steps)):
            raise InvalidEnds(ends)
        self._letters = letters
        self._steps, self._ends = least_form(letters, steps, ends)

    @property
    def letters(self):
        """How many letters there are."""
        return self._letters

    @property
    def states(self):
        """How many states the least machine has."""
        return len(self._steps)

    def steps(self):
        """For each state the list of its next states, one for each letter."""
        return [list(row) for row in self._steps]

    def ends(self):
        """The rising list of the ends."""
        return list(self._ends)

    def __eq__(self, other):
        return (isinstance(other, Machine) and self._letters == other._letters
                and self._steps == other._steps and self._ends == other._ends)


def are_steps(letters, value):
    """Whether the value tells for each of 1 to 12 states just one next state for each letter."""
    if not is_listing(value) or not 1 <= len(value) <= GREATEST_PASSED:
        return False
    return all([is_row(letters, len(value), row) for row in value])


def is_row(letters, states, value):
    """Whether the value is a list of one of the states for each letter."""
    return is_listing(value) and len(value) == letters and all([is_below(state, states) for state in value])


def machine_of(letters, steps, ends):
    """The Machine of right steps and ends: unlike those that are passed to Machine they may have many states."""
    machine = Machine(letters, [[0] * letters], [])
    machine._steps, machine._ends = least_form(letters, steps, ends)
    return machine


def check_machine(machine):
    """Raise unless this is a Machine."""
    if not isinstance(machine, Machine):
        raise InvalidMachine(machine)


def check_like_letters(one, other):
    """Raise unless both, Machines or what else has letters, have as many."""
    if one.letters != other.letters:
        raise UnlikeLetters()


def led_to(machine, word):
    """The state to which the machine leads a word of its letters, of whatever length."""
    steps, state = machine.steps(), 0
    for sign in word:
        state = steps[state][SIGNS.index(sign)]
    return state


def lets(machine, word):
    """Whether the machine lets the word."""
    check_machine(machine)
    check_word(machine.letters, word)
    return led_to(machine, word) in machine.ends()


def is_empty(machine):
    """Whether the machine lets no word."""
    check_machine(machine)
    return not machine.ends()


def shortest(machine):
    """The first word that the machine lets, None without one."""
    check_machine(machine)
    # States are numbered by their first words, so the first end has the first of all words that are let.
    ends = machine.ends()
    return first_words_to(machine.steps())[ends[0]] if ends else None


def words_of(machine, length):
    """The words of at most this length that the machine lets, in the sequence."""
    check_machine(machine)
    check_length(length)
    ends = machine.ends()
    return [word for word in first_words(machine.letters, length) if led_to(machine, word) in ends]
