"""Views, lots of words that are known, and words over them: what these read, and which of them are sure."""

from widefills.basics import is_listing
from widefills.errors import InvalidViews, UnlikeLetters
from widefills.fillings import lot_of, mask_of
from widefills.least import explored, first_words_to
from widefills.machines import Machine, check_like_letters, check_machine, led_to
from widefills.makings import told_by_guesses
from widefills.subsets import led_from, stepped
from widefills.words import SIGNS, check_word

MOST_VIEWS = 3


def are_views(value):
    """Whether the value is a list of 1 to 3 Machines with as many letters each."""
    if not is_listing(value) or not 1 <= len(value) <= MOST_VIEWS:
        return False
    if not all([isinstance(view, Machine) for view in value]):
        return False
    return all([view.letters == value[0].letters for view in value])


def check_views(views):
    """Raise unless these are views."""
    if not are_views(views):
        raise InvalidViews(views)


def readings_of(views, word):
    """The Machine of all readings of the view word."""
    check_views(views)
    check_word(len(views), word)
    # A row for each sign, and one behind the last sign, where the view word ends.
    rows = [[at + 1 if SIGNS[view] == sign else None for view in range(len(views))] for at, sign in enumerate(word)]
    return read_out(views, rows + [[None] * len(views)], [len(word)])


def opened(views, machine):
    """The Machine of all readings of the view words that the machine lets."""
    check_views(views)
    check_machine(machine)
    if machine.letters != len(views):
        raise UnlikeLetters()
    return read_out(views, machine.steps(), machine.ends())


def read_out(views, rows, ends):
    """The Machine of all readings of the view words that lead to an end.

    rows are, for each state, the next states, one for each view, None where there is none.
    """
    # Who guesses stands between two signs, at a state, or within a view, ahead of the state where it goes on.
    places, many = {}, len(rows)
    for row in rows:
        for view, after in enumerate(row):
            if after is not None and (view, after) not in places:
                places[view, after] = many
                many += views[view].states
    entered = entered_at(views, rows, places)
    steps = []
    for letter in range(views[0].letters):
        masks = [0] * many
        for (view, after), first in places.items():
            stops = views[view].ends()
            for state, row in enumerate(views[view].steps()):
                goes_on = entered[after] if row[letter] in stops else 0
                masks[first + state] = 1 << (first + row[letter]) | goes_on
        steps.append(masks)
    return told_by_guesses(views[0].letters, steps, entered[0], mask_of(ends))


def entered_at(views, rows, places):
    """For each state the mask of all places where one stands who has come to it, also by empty words of views."""
    idle = [mask_of([after for view, after in enumerate(row) if after is not None and 0 in views[view].ends()])
            for row in rows]
    begun = [mask_of([places[view, after] for view, after in enumerate(row) if after is not None]) for row in rows]
    entered = []
    for state in range(len(rows)):
        reached = led_from([idle], 1 << state)
        entered.append(reached | stepped(begun, reached))
    return entered


def check_viewed(machine, views):
    """Raise unless these are a Machine and views."""
    check_machine(machine)
    check_views(views)


def check_view_word(machine, views, word):
    """Raise unless these are a Machine, views with as many letters, and a view word."""
    check_viewed(machine, views)
    check_word(len(views), word)
    check_like_letters(machine, views[0])


def view_steps(machine, views):
    """For each view, for each state of the machine, the mask of the states to which words of the view lead."""
    return [[mask_of([after for after, stop in led_by(machine, view, state)[0] if stop in view.ends()])
             for state in range(machine.states)] for view in views]


def led_by(machine, view, begin):
    """The states of machine and view led at once from the begin, and the steps between them."""
    steps, view_rows = machine.steps(), view.steps()

    def lead(both, letter):
        return steps[both[0]][letter], view_rows[both[1]][letter]

    return explored((begin, 0), machine.letters, lead)


def not_let(machine):
    """The mask of the states that are no ends."""
    ends = machine.ends()
    return mask_of([state for state in range(machine.states) if state not in ends])


def ways_through(machine, views, word):
    """The steps by views, and for each number of signs the mask of the states to which readings of so many lead."""
    steps, reached = view_steps(machine, views), [1]
    for sign in word:
        reached.append(stepped(steps[SIGNS.index(sign)], reached[-1]))
    return steps, reached


def is_sure(machine, views, word):
    """Whether the machine lets all readings of the view word."""
    check_view_word(machine, views, word)
    _, reached = ways_through(machine, views, word)
    return not reached[-1] & not_let(machine)


def leaving(machine, views, word):
    """A leaving of the view word: pieces of its signs' views, which make no word that is let; None if it is sure."""
    check_view_word(machine, views, word)
    steps, reached = ways_through(machine, views, word)
    wrong = lot_of(reached[-1] & not_let(machine))
    if not wrong:
        return None
    state, pieces = wrong[0], []
    for at in range(len(word) - 1, -1, -1):
        view = SIGNS.index(word[at])
        ahead = [one for one in lot_of(reached[at]) if (steps[view][one] >> state) & 1]
        pieces.append(first_piece(machine, views[view], ahead[0], state))
        state = ahead[0]
    return pieces[::-1]


def first_piece(machine, view, begin, end):
    """The first word of the view that leads the machine from one state to another."""
    keys, steps = led_by(machine, view, begin)
    stops = view.ends()
    found = [place for place, (state, stop) in enumerate(keys) if state == end and stop in stops]
    return first_words_to(steps)[found[0]]


def is_leaving(machine, views, word, value):
    """Whether the value is a leaving of the view word."""
    check_view_word(machine, views, word)
    if not is_listing(value) or len(value) != len(word):
        return False
    if not all([is_piece(views[SIGNS.index(sign)], piece) for sign, piece in zip(word, value)]):
        return False
    return led_to(machine, "".join(value)) not in machine.ends()


def is_piece(view, value):
    """Whether the value is a string, of whatever length, that the view lets."""
    if not isinstance(value, str) or not all([sign in SIGNS[:view.letters] for sign in value]):
        return False
    return led_to(view, value) in view.ends()
