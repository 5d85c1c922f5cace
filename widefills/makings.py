"""Machines made of words and of other machines."""

from widefills.basics import is_listing
from widefills.errors import InvalidWords
from widefills.least import explored, first_words_to
from widefills.machines import check_like_letters, check_machine, machine_of
from widefills.subsets import least_of_guesses
from widefills.words import SIGNS, check_letters, is_word_of

MOST_WORDS = 20
# A key that no beginning of a word is: all words that are led to it are not let, whatever follows.
ASTRAY = "-"

# Of two machines led at once: the states (whether each of both lets there) at which a word is wanted.
WANTED_OF_EITHER = ((True, True), (True, False), (False, True))
WANTED_OF_BOTH = ((True, True),)
WANTED_OF_FIRST_ALONE = ((True, False),)
WANTED_OF_JUST_ONE = ((True, False), (False, True))


def of_words(letters, words):
    """The Machine that lets just these words."""
    check_letters(letters)
    if not is_listing(words) or len(words) > MOST_WORDS or not all([is_word_of(letters, word) for word in words]):
        raise InvalidWords(words)
    beginnings = {word[:length]: True for word in words for length in range(len(word) + 1)}

    def lead(beginning, letter):
        longer = beginning + SIGNS[letter]
        return longer if longer in beginnings else ASTRAY

    keys, steps = explored("", letters, lead)
    return machine_of(letters, steps, [state for state, key in enumerate(keys) if key in words])


def check_two(machine, other):
    """Raise unless these are two Machines with as many letters."""
    check_machine(machine)
    check_machine(other)
    check_like_letters(machine, other)


def led_at_once(machine, other, wanted):
    """Steps and ends of both machines led at once, states numbered by their first words; wanted tells the ends."""
    near, far = machine.steps(), other.steps()
    near_ends, far_ends = machine.ends(), other.ends()

    def lead(both, letter):
        return near[both[0]][letter], far[both[1]][letter]

    keys, steps = explored((0, 0), machine.letters, lead)
    ends = [state for state, (one, two) in enumerate(keys) if (one in near_ends, two in far_ends) in wanted]
    return steps, ends


def made_of_two(machine, other, wanted):
    """The Machine of the wanted words."""
    check_two(machine, other)
    steps, ends = led_at_once(machine, other, wanted)
    return machine_of(machine.letters, steps, ends)


def joined(machine, other):
    """The Machine of the words of either one."""
    return made_of_two(machine, other, WANTED_OF_EITHER)


def met(machine, other):
    """The Machine of the words of both."""
    return made_of_two(machine, other, WANTED_OF_BOTH)


def without(machine, other):
    """The Machine of the words of the first alone."""
    return made_of_two(machine, other, WANTED_OF_FIRST_ALONE)


def told_by_guesses(letters, steps, begins, ends):
    """The Machine of what is told by guessing, told as least_of_guesses wants it."""
    least_steps, least_ends = least_of_guesses(steps, begins, ends)
    return machine_of(letters, least_steps, least_ends)


def behind(machine, other):
    """The Machine of each word of the first followed by each word of the other."""
    check_two(machine, other)
    # Who comes to an end of the first may go on from where the other begins.
    near, far, shift = machine.steps(), other.steps(), machine.states
    entered = [1 << state for state in range(shift)]
    for end in machine.ends():
        entered[end] |= 1 << shift
    steps = [[entered[row[letter]] for row in near] + [1 << (shift + row[letter]) for row in far]
             for letter in range(machine.letters)]
    return told_by_guesses(machine.letters, steps, entered[0], sum([1 << (shift + end) for end in other.ends()]))


def rounds(machine):
    """The Machine of the empty word and all words that are words of the machine one behind another."""
    check_machine(machine)
    # Who comes to an end may begin again. A state that nothing leads to or from lets the empty word.
    apart = 1 << machine.states
    entered = [1 << state for state in range(machine.states)]
    for end in machine.ends():
        entered[end] |= 1
    steps = [[entered[row[letter]] for row in machine.steps()] + [0] for letter in range(machine.letters)]
    return told_by_guesses(machine.letters, steps, 1 | apart, sum([1 << end for end in machine.ends()]) | apart)


def is_within(machine, other):
    """Whether the other one lets all words that the machine lets."""
    check_two(machine, other)
    _, ends = led_at_once(machine, other, WANTED_OF_FIRST_ALONE)
    return not ends


def first_wanted(machine, other, wanted):
    """The first of the wanted words, of whatever length, None if there are none."""
    steps, ends = led_at_once(machine, other, wanted)
    return first_words_to(steps)[ends[0]] if ends else None


def parting(machine, other):
    """The first word that just one of both lets, None if they are equal."""
    check_two(machine, other)
    return first_wanted(machine, other, WANTED_OF_JUST_ONE)
