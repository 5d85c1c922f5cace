"""What stands between two pairs, and the greatest lists of lots one behind another that are read off."""

from widefills.basics import is_below, is_listing
from widefills.errors import InvalidPair
from widefills.fillings import check_lots, check_many, greatest_of, lots_of, mask_of
from widefills.lots import behind_lots, rest_behind
from widefills.pairs import pair_over, pairs
from widefills.tables import check_position, check_table, passed


def check_pair(told, place):
    """Raise unless this is the place of one of the pairs told."""
    if not is_below(place, len(told)):
        raise InvalidPair(place)


def middle(table, position, near, far):
    """The classes whose words can stand between near's front and far's back."""
    told = pairs(table, position)
    check_pair(told, near)
    check_pair(told, far)
    return middle_of(table, told[near], told[far])


def middle_of(table, near, far):
    """The middle of two pairs themselves: what leads near's front to words that far's back can follow."""
    return rest_behind(table, near[0], far[0])


def middles(table, position):
    """For each pair near, for each pair far, the middle."""
    told = pairs(table, position)
    return [[middle_of(table, near, far) for far in told] for near in told]


def first_place(table, position, told):
    """The place of the first one of the pairs told."""
    return told.index(pair_over(table, position, [0]))


def last_place(table, position, told):
    """The place of the last one of the pairs told."""
    return told.index(pair_over(table, position, passed(table, position)))


def joined_fillings(table, position, many):
    """The sorted list of all greatest lists of so many lots."""
    check_table(table)
    check_position(table, position)
    check_many(many)
    told, classes = pairs(table, position), table.classes
    between = [[mask_of(lot) for lot in row] for row in middles(table, position)]
    # For each way so far its last place, and its middles as one integer.
    ways = [(first_place(table, position, told), 0)]
    for at in range(many):
        places = [last_place(table, position, told)] if at == many - 1 else list(range(len(told)))
        ways = [(far, whole | (between[near][far] << (classes * at))) for near, whole in ways for far in places]
    wholes = sorted({whole for _, whole in ways})
    return sorted([lots_of(whole, many, classes) for whole in greatest_of(wholes)])


def go_along(table, told, way, lots):
    """Whether each of the lots lies within the middle of the pairs ahead of it and behind it."""
    betweens = [middle_of(table, told[near], told[far]) for near, far in zip(way, way[1:])]
    return all([one in between for between, lot in zip(betweens, lots) for one in lot])


def way_of(table, position, lots):
    """A way along which the lots go, None if they are not right."""
    check_table(table)
    check_position(table, position)
    check_lots(table, lots)
    told = pairs(table, position)
    way, front = [first_place(table, position, told)], [0]
    for lot in lots[:-1]:
        front = behind_lots(table, front, lot)
        way.append(told.index(pair_over(table, position, front)))
    way.append(last_place(table, position, told))
    # The pairs over what stands so far have the least fronts: where these do not do, no others do.
    return way if go_along(table, told, way, lots) else None


def is_way(table, position, lots, value):
    """Whether the value is a list of places of pairs that is a way along which the lots go."""
    check_table(table)
    check_position(table, position)
    check_lots(table, lots)
    told = pairs(table, position)
    if not is_listing(value) or len(value) != len(lots) + 1 or not all([is_below(one, len(told)) for one in value]):
        return False
    if value[0] != first_place(table, position, told) or value[-1] != last_place(table, position, told):
        return False
    return go_along(table, told, value, lots)
