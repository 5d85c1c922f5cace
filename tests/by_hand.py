"""Patterns by chance, and what they make, put together by hand."""

from random import Random

NAMES = (("name", 0), ("name", 1), ("name", 2))
X, Y, Z = NAMES


def row(*parts):
    """The parts one behind the other."""
    found = parts[-1]
    for part in parts[-2::-1]:
        found = ("behind", part, found)
    return found


def either(*parts):
    """Either one of the parts."""
    found = parts[-1]
    for part in parts[-2::-1]:
        found = ("either", part, found)
    return found


def star(part):
    return ("round", part)


def word(signs):
    return ("word", signs)


def chance_pattern(seed, letters, names, parts, words=("", "a", "b", "ab", "c", "aa")):
    """A pattern by chance, of at most so many parts, the same for the same seed."""
    return pattern_of(Random(seed), [one for one in words if set(one) <= set("abc"[:letters])], names, parts, 9)


def pattern_of(chance, words, names, parts, deep):
    if parts < 2 or deep == 1:
        if names and chance.randrange(4):
            return ("name", chance.randrange(names))
        return ("word", chance.choice(words))
    if parts == 2 or chance.randrange(4) == 0:
        return ("round", pattern_of(chance, words, names, parts - 1, deep - 1))
    near = chance.randrange(1, parts - 1)
    return (chance.choice(["behind", "behind", "either"]), pattern_of(chance, words, names, near, deep - 1),
            pattern_of(chance, words, names, parts - 1 - near, deep - 1))


def made_by_hand(pattern, filling, length):
    """The words (or mixed words, tuples) of at most this length that the pattern makes.

    filling tells for each name a collection of words; without one a name makes itself, and all are tuples.
    """
    kind = pattern[0]
    if kind == "word":
        made = {pattern[1] if filling is not None else tuple(pattern[1])}
    elif kind == "name":
        made = set(filling[pattern[1]]) if filling is not None else {(pattern[1],)}
    elif kind == "either":
        made = made_by_hand(pattern[1], filling, length) | made_by_hand(pattern[2], filling, length)
    elif kind == "behind":
        near, far = [made_by_hand(part, filling, length) for part in pattern[1:]]
        made = {one + other for one in near for other in far if len(one) + len(other) <= length}
    else:
        part = [one for one in made_by_hand(pattern[1], filling, length) if one]
        made, last = set(), {"" if filling is not None else ()}
        while last:
            made |= last
            last = {one + other for one in last for other in part if len(one) + len(other) <= length} - made
    return {one for one in made if len(one) <= length}
