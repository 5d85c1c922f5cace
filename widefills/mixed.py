"""Mixed words: which of them patterns make, told by guessing at which place of a pattern a thing stands.

Each sign of a word and each name in a pattern is a PLACE. A lot of places is an integer, a bit for each. Things are
told by numbers, in their sequence: the letters first, then the names.
"""

from widefills.fillings import MOST_NAMES, lot_of
from widefills.least import numbered
from widefills.subsets import stepped, way_to
from widefills.words import SIGNS


def laid(pattern, letters, things, follows):
    """The places of the pattern where what it makes begins and ends, and whether it makes the empty mixed word.

    things and follows grow: for each place of the pattern the thing there, and the places that may come next.
    """
    kind = pattern[0]
    if kind == "word":
        return laid_row([SIGNS.index(sign) for sign in pattern[1]], things, follows)
    if kind == "name":
        return laid_row([letters + pattern[1]], things, follows)
    begins, ends, empty = laid(pattern[1], letters, things, follows)
    if kind == "round":
        lead_on(follows, ends, begins)
        return begins, ends, True
    far_begins, far_ends, far_empty = laid(pattern[2], letters, things, follows)
    if kind == "either":
        return begins | far_begins, ends | far_ends, empty or far_empty
    lead_on(follows, ends, far_begins)
    return (begins | far_begins if empty else begins), (ends | far_ends if far_empty else far_ends), empty and far_empty


def laid_row(row, things, follows):
    """The same for a row of things, one behind the other."""
    first = len(things)
    for at in range(len(row)):
        follows.append(1 << (first + at + 1) if at + 1 < len(row) else 0)
    things.extend(row)
    return (1 << first, 1 << (len(things) - 1), False) if row else (0, 0, True)


def lead_on(follows, ends, begins):
    """What begins at these places may come next behind what ends at those."""
    for place in lot_of(ends):
        follows[place] |= begins


def guesses(letters, patterns):
    """What the patterns make, by guessing: for each thing the next states of each state; the begins; the ends.

    Each pattern has a begin of its own; states that go on alike are one, so that like parts of patterns are, too.
    """
    things, follows, begins, ends = [], [], [], 0
    for pattern in patterns:
        first, last, empty = laid(pattern, letters, things, follows)
        # The begin is a place where no thing stands, and that nothing leads to.
        begins.append(len(things))
        ends |= last | (1 << len(things) if empty else 0)
        things.append(None)
        follows.append(first)
    after = [lot_of(lot) for lot in follows]
    blocks = alike_blocks(things, after, [ends >> place & 1 for place in range(len(things))])
    steps = [[0] * (max(blocks) + 1) for _ in range(letters + MOST_NAMES)]
    for place, block in enumerate(blocks):
        for other in after[place]:
            steps[things[other]][block] |= 1 << blocks[other]
    stops = sum([1 << block for block in sorted({blocks[place] for place in lot_of(ends)})])
    return steps, [1 << blocks[place] for place in begins], stops


def alike_blocks(things, after, ends):
    """For each place the number of its block: places of one block have the same thing, and go on alike."""
    blocks, many = numbered(list(zip(things, ends))), 0
    while many != max(blocks) + 1:
        many = max(blocks) + 1
        blocks = numbered([(block, tuple(sorted({blocks[other] for other in after[place]})))
                           for place, block in enumerate(blocks)])
    return blocks


def makes_mixed(letters, pattern, numbers):
    """Whether the pattern makes the mixed word of the things with these numbers."""
    steps, begins, ends = guesses(letters, [pattern])
    states = begins[0]
    for thing in numbers:
        states = stepped(steps[thing], states)
    return bool(states & ends)


def first_parting(letters, pattern, other):
    """The numbers of the things of the first mixed word that just one of both makes, None if none does."""
    steps, begins, ends = guesses(letters, [pattern, other])
    both = begins[0], begins[1]
    # For each two lots of states led to by a mixed word: where they were come from, and by which thing.
    asked, whence, seen, done = [both], [None], {both: True}, 0
    while done < len(asked):
        near, far = asked[done]
        if bool(near & ends) != bool(far & ends):
            return way_to(whence, done)
        for thing, rows in enumerate(steps):
            both = stepped(rows, near), stepped(rows, far)
            if both[0] != both[1] and both not in seen:
                seen[both] = True
                asked.append(both)
                whence.append((done, thing))
        done += 1
    return None
