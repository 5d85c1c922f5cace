"""The least machine of what is told by guessing, where a letter may lead to several states at once.

States are bits, a lot of states is an integer, its SUBSET. Making all subsets may take endlessly long, also where the
least machine is small, or is soon seen to be too large. So where there are many, only as many are kept as words found
so far, the TESTS, tell apart: these are the KINDS. Whether they tell just what is guessed is then shown, or a word is
found by whose endings more of them are told apart.
"""

from heapq import heappop, heappush

from widefills.errors import TooMany
from widefills.fillings import lot_of
from widefills.least import GREATEST_STATES, explored, least_form

# How many subsets, each as often as there are states, are made before it is done without making all of them.
MOST_WORK = 1000000


def stepped(rows, subset):
    """The states to which one letter, by its rows, leads from some state of the subset."""
    found = 0
    while subset:
        lowest = subset & -subset
        found |= rows[lowest.bit_length() - 1]
        subset ^= lowest
    return found


def stepped_back(rows, subset):
    """The states from which one letter, by its rows, leads to some state of the subset."""
    found = 0
    for state, row in enumerate(rows):
        if row & subset:
            found |= 1 << state
    return found


def moved_on(move, steps, subset):
    """The states that are come to by moves of any letters, however many, from some state of the subset."""
    found, grown = 0, subset
    while found != grown:
        found = grown
        for rows in steps:
            grown |= move(rows, grown)
    return found


def leading_to(steps, ends):
    """The states from which some word leads to an end."""
    return moved_on(stepped_back, steps, ends)


def led_from(steps, begins):
    """The states to which some word leads from a begin."""
    return moved_on(stepped, steps, begins)


def least_of_guesses(steps, begins, ends):
    """The steps and the ends of the least machine of the words that lead from a begin to an end.

    steps are, for each letter, the rows: for each state the subset of its next states. TooMany as of least_form.
    """
    steps, begins = alive(steps, begins, ends)

    def lead(subset, letter):
        return stepped(steps[letter], subset)

    try:
        subsets, leads = explored(begins, len(steps), lead, "subsets", MOST_WORK // (len(steps[0]) + 1))
    except TooMany:
        return least_by_tests(steps, begins, ends)
    return least_form(len(steps), leads, [place for place, subset in enumerate(subsets) if subset & ends])


def least_by_tests(steps, begins, ends):
    """The same, made without all subsets."""
    tests = [ends]
    while True:
        kept, leads = told_apart(steps, begins, tests)
        stops = [kind for kind, subset in enumerate(kept) if subset & ends]
        letters = told_beyond(steps, begins, ends, leads, stops, size_of)
        if letters is None:
            letters = let_beyond(steps, begins, ends, leads, stops, size_of)
        if letters is None:
            return leads, stops
        # Where the kinds go wrong on a word, some ending of it parts two subsets of one kind.
        tests = tests + endings(steps, ends, letters, tests)


def alive(steps, begins, ends):
    """The steps and the begins, of the states alone from which some word leads to an end."""
    kept = leading_to(steps, ends)
    return [[row & kept for row in rows] for rows in steps], begins & kept


def told_apart(steps, begins, tests):
    """The first subset of each kind that the tests tell apart, and, by their places, the kinds led to from these."""
    firsts = {marks(begins, tests): begins}

    def lead(subset, letter):
        after = stepped(steps[letter], subset)
        return firsts.setdefault(marks(after, tests), after)

    return explored(begins, len(steps), lead, "states", GREATEST_STATES)


def marks(subset, tests):
    """For each test whether it leads from the subset to an end."""
    return tuple([bool(subset & test) for test in tests])


def endings(steps, ends, letters, tests):
    """The tests that are not there yet, of the endings of a word: the subsets from which they lead to an end."""
    found, test, known = [], ends, {one: True for one in tests}
    for letter in letters[::-1]:
        test = stepped_back(steps[letter], test)
        if test not in known:
            known[test] = True
            found.append(test)
    return found


def told_beyond(steps, begins, ends, leads, stops, weigh):
    """The letters of a word that is guessed, and that the kinds do not let; None if there is none.

    Subsets that weigh(subset) less are gone on with first. If all weigh as much, it is the first one in the sequence.
    """
    # For each kind all states that are come to together with it: each of them is gone on with once.
    reached = [0] * len(leads)

    def fresh(kind, subset):
        states = subset & ~reached[kind]
        reached[kind] |= states
        return states or None

    def is_wrong(kind, subset):
        return bool(subset & ends) and kind not in stops

    return first_wrong(steps, begins, leads, fresh, is_wrong, weigh)


def let_beyond(steps, begins, ends, leads, stops, weigh):
    """The letters of a word that the kinds let, and that is not guessed, found likewise; None if there is none."""
    # What is wrong of a subset is so of those within it. So those within which another one of the kind lies are not
    # gone on with. (De Wulf, Doyen, Henzinger, Raskin 2006: antichains.) Only smaller ones need be looked through.
    seen = [{} for _ in leads]

    def fresh(kind, subset):
        size, found = size_of(subset), seen[kind]
        if subset in found.get(size, {}):
            return None
        if any([any([less & ~subset == 0 for less in found[other]]) for other in found if other < size]):
            return None
        found.setdefault(size, {})[subset] = True
        return subset

    def is_wrong(kind, subset):
        return kind in stops and not subset & ends

    return first_wrong(steps, begins, leads, fresh, is_wrong, weigh)


def size_of(subset):
    """How many states there are. From small subsets words that are not guessed are soonest found."""
    return len(lot_of(subset))


def no_weight(_):
    """0, for all subsets: the first ones found are gone on with first."""
    return 0


def first_wrong(steps, begins, leads, fresh, is_wrong, weigh):
    """The letters of the first word found that is wrong, by the kind and the subset to which it leads.

    fresh(kind, subset) is what of the subset is gone on with, None if nothing is.
    """
    begin = fresh(0, begins)
    asked, whence, queue = [(0, begin)], [None], [(0, 0)]
    if begin is None:
        return None
    while queue:
        _, place = heappop(queue)
        kind, subset = asked[place]
        if is_wrong(kind, subset):
            return way_to(whence, place)
        for letter, rows in enumerate(steps):
            after = leads[kind][letter]
            states = fresh(after, stepped(rows, subset))
            if states is not None:
                heappush(queue, (weigh(states), len(asked)))
                asked.append((after, states))
                whence.append((place, letter))
    return None


def way_to(whence, place):
    """The letters by which the place was come to: whence tells of each place the one ahead of it, and a letter."""
    found = []
    while whence[place] is not None:
        place, letter = whence[place]
        found.append(letter)
    return found[::-1]
