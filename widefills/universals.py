"""The one machine of pairs into which each machine that guesses for a lot maps, and its parts."""

from widefills.basics import are_unlike_below, is_below, is_listing
from widefills.errors import InvalidPlaces, NotOfUse, NotTold
from widefills.fillings import lot_of
from widefills.guessers import Guesser, check_guesser, is_of_use, is_telling
from widefills.machines import check_like_letters
from widefills.pairs import pair_over, pairs
from widefills.tables import check_position, check_table


def check_places(told, places):
    """Raise unless this is a list of unlike places of the pairs told."""
    if not are_unlike_below(places, len(told)):
        raise InvalidPlaces(places)


def universal(table, position):
    """The one machine, a Guesser whose states are the places of the pairs."""
    return guesser_of(table, pairs(table, position))


def part(table, position, places):
    """The part of these places: the Guesser of these pairs alone, rising."""
    told = pairs(table, position)
    check_places(told, places)
    return guesser_of(table, [told[place] for place in sorted(places)])


def guesser_of(table, chosen):
    """The Guesser of the chosen pairs, with all steps of the one machine among them."""
    steps = [[[at for at, (far, _) in enumerate(chosen) if goes_within(table, near, letter, far)]
              for letter in range(table.letters)] for near, _ in chosen]
    begins = [at for at, (front, _) in enumerate(chosen) if 0 in front]
    ends = [at for at, (_, back) in enumerate(chosen) if 0 in back]
    return Guesser(table.letters, steps, begins, ends)


def goes_within(table, lot, letter, other):
    """Whether each word of the first lot, followed by the letter, is of a class of the other one."""
    return all([table.class_steps[one][letter] in other for one in lot])


def check_guesser_of(table, position, guesser):
    """Raise unless this is a Guesser with as many letters as a Table, with a machine at this position."""
    check_table(table)
    check_position(table, position)
    check_guesser(guesser)
    check_like_letters(table, guesser)


def map_to(table, position, guesser):
    """The places of the pairs over the pasts of the guesser's states."""
    check_guesser_of(table, position, guesser)
    if not is_telling(guesser, table.machines()[position]):
        raise NotTold()
    if not is_of_use(guesser):
        raise NotOfUse()
    told = pairs(table, position)
    return [told.index(pair_over(table, position, lot)) for lot in pasts_of(table, guesser)]


def pasts_of(table, guesser):
    """For each state the classes of the words of its past."""
    steps = guesser.steps()
    queue = [(state, 0) for state in guesser.begins()]
    found = [0] * guesser.states
    while queue:
        state, one = queue.pop()
        if not (found[state] >> one) & 1:
            found[state] |= 1 << one
            for letter, lot in enumerate(steps[state]):
                queue.extend([(after, table.class_steps[one][letter]) for after in lot])
    return [lot_of(mask) for mask in found]


def is_map(table, position, guesser, value):
    """Whether the value is a map of the guesser."""
    check_guesser_of(table, position, guesser)
    told = pairs(table, position)
    if not is_listing(value) or len(value) != guesser.states or not all([is_below(one, len(told)) for one in value]):
        return False
    one = guesser_of(table, told)
    steps, begins, ends = one.steps(), one.begins(), one.ends()
    if not all([value[state] in begins for state in guesser.begins()]):
        return False
    if not all([value[state] in ends for state in guesser.ends()]):
        return False
    return all([value[after] in steps[value[state]][letter] for state, row in enumerate(guesser.steps())
                for letter, lot in enumerate(row) for after in lot])
