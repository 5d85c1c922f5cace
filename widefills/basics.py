"""What kinds of values there are: integers, counts, lists of them."""


def is_integer(value):
    """Whether the value is an INTEGER: an int, but no bool."""
    return isinstance(value, int) and not isinstance(value, bool)


def is_count(value):
    """Whether the value is a COUNT: an INTEGER that is at least 0."""
    return is_integer(value) and value >= 0


def is_below(value, limit):
    """Whether the value is a COUNT below the limit."""
    return is_count(value) and value < limit


def is_listing(value):
    """Whether the value may be passed as a list: a tuple may, too."""
    return isinstance(value, (list, tuple))


def are_unlike_below(value, limit):
    """Whether the value is a list of unlike COUNTs below the limit."""
    if not is_listing(value) or not all([is_below(part, limit) for part in value]):
        return False
    return len(set(value)) == len(value)


def copied(value):
    """The value, with new lists and tuples, also inside."""
    if isinstance(value, list):
        return [copied(part) for part in value]
    return tuple([copied(part) for part in value]) if isinstance(value, tuple) else value
