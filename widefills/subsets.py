"""The least machine of what is told by guessing, where a letter may lead to several states at once.

States are bits, a lot of states is an integer, its SUBSET. Making all subsets may take endlessly long, also where the
least machine is small, or is soon seen to be too large. So only as many subsets are kept as words found so far, the
TESTS, tell apart. Whether the others are like those that stand for them is then shown, or a further test is found.
"""

from widefills.errors import TooMany
from widefills.least import GREATEST_STATES, explored


def stepped(rows, subset):
    """The states to which one letter, by its rows, leads from some state of the subset."""
    found = 0
    while subset:
        lowest = subset & -subset
        found |= rows[lowest.bit_length() - 1]
        subset ^= lowest
    return found


def stepped_back(rows, subset):
    """The states from which one letter, by its rows, leads to some state of the subset."""
    found = 0
    for state, row in enumerate(rows):
        if row & subset:
            found |= 1 << state
    return found


def leading_to(steps, ends):
    """The states from which some word leads to an end."""
    found, grown = 0, ends
    while found != grown:
        found = grown
        for rows in steps:
            grown |= stepped_back(rows, grown)
    return found


def least_of_guesses(steps, begins, ends):
    """The steps and the ends of the least machine of the words that lead from a begin to an end.

    steps are, for each letter, the rows: for each state the subset of its next states. TooMany as of least_form.
    """
    alive = leading_to(steps, ends)
    steps = [[row & alive for row in rows] for rows in steps]
    tests = [ends]
    while True:
        kept, leads = told_apart(steps, begins & alive, tests)
        word = first_unlike(steps, ends, kept, leads)
        if word is None:
            return leads, [at for at, subset in enumerate(kept) if subset & ends]
        test = ends
        for letter in reversed(list(word)):
            test = stepped_back(steps[letter], test)
        tests.append(test)


def told_apart(steps, begins, tests):
    """The first subset of each kind that the tests tell apart, and, by their places, the kinds led to from these."""
    firsts = {marks(begins, tests): begins}

    def lead(subset, letter):
        after = stepped(steps[letter], subset)
        return firsts.setdefault(marks(after, tests), after)

    return explored(begins, len(steps), lead, "states", GREATEST_STATES)


def marks(subset, tests):
    """For each test whether it leads from the subset to an end."""
    return tuple([bool(subset & test) for test in tests])


def first_unlike(steps, ends, kept, leads):
    """The letters of a word that parts a subset led to and the kept one that stands for it, None if none does."""
    asked = [(stepped(rows, subset), kept[leads[at][letter]], ())
             for at, subset in enumerate(kept) for letter, rows in enumerate(steps)]
    alike, done = [], 0
    while done < len(asked):
        near, far, word = asked[done]
        done += 1
        if bool(near & ends) != bool(far & ends):
            return word
        # What follows from pairs that are asked already need not be asked: where both of a pair let the same words,
        # they do so with any further states. (Bonchi and Pous: bisimulation up to congruence.)
        if filled(near, alike) == filled(far, alike):
            continue
        alike.append((near, far))
        for letter, rows in enumerate(steps):
            asked.append((stepped(rows, near), stepped(rows, far), (*word, letter)))
    return None


def filled(subset, alike):
    """The subset with all states that can be put in by pairs of alike subsets."""
    before = None
    while before != subset:
        before = subset
        for near, far in alike:
            if near & subset == near or far & subset == far:
                subset |= near | far
    return subset
