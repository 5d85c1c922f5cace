"""Fillings: lists of lots, one for each name; also as integers, with a bit for each name and class."""

from widefills.basics import are_unlike_below, is_integer, is_listing
from widefills.errors import InvalidFilling, InvalidMany

MOST_NAMES = 3


def is_many(value):
    """Whether the value is a number of names, or of lots."""
    return is_integer(value) and 1 <= value <= MOST_NAMES


def check_many(many):
    """Raise unless this is a number of names, or of lots."""
    if not is_many(many):
        raise InvalidMany(many)


def are_lots(table, value):
    """Whether the value is a list of lots of classes of the table, however many."""
    return is_listing(value) and all([are_unlike_below(lot, table.classes) for lot in value])


def is_filling(table, value):
    """Whether the value is a list of 1 to 3 lots of classes of the table."""
    return are_lots(table, value) and 1 <= len(value) <= MOST_NAMES


def check_lots(table, lots):
    """Raise unless this is a list of 1 to 3 lots of classes of the table."""
    if not is_filling(table, lots):
        raise InvalidFilling(lots)


def mask_of(lot):
    """The lot as an integer, a bit for each class, however often it is told."""
    mask = 0
    for one in lot:
        mask |= 1 << one
    return mask


def lot_of(mask):
    """The rising lot of the bits of an integer."""
    return [one for one in range(mask.bit_length()) if (mask >> one) & 1]


def whole_of(lots, classes):
    """The lots, each of at most so many classes, as one integer: the first one has the lowest bits."""
    return sum([mask_of(lot) << (classes * name) for name, lot in enumerate(lots)])


def masks_of(whole, many, classes):
    """The masks of so many lots, of what they are as one integer."""
    return [(whole >> (classes * name)) & ((1 << classes) - 1) for name in range(many)]


def lots_of(whole, many, classes):
    """So many lots, of what they are as one integer."""
    return [lot_of(mask) for mask in masks_of(whole, many, classes)]


def greatest_of(wholes):
    """Those of the integers, which are unlike, whose bits do not lie within those of another one."""
    return [one for one in wholes if not any([one & other == one and one != other for other in wholes])]
