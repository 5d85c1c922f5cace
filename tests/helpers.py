"""What the tests share: wrong values, words by brute force, machines by chance that is always the same."""

from itertools import product as all_of
from random import Random

from widefills.machines import Machine

# No test may take these for a number, a word, a list of anything, or an object of the package.
JUNK = (None, True, False, b"a", b"", {}, {"a": 1}, {0: 0}, {0}, object(), int, Machine, len, "odd one", -1, 10 ** 30)


def wrongs(test, function, right, wrong):
    """Each parameter's wrong values raise its error, with the value, by place and by name.

    right are right arguments by their names, in the sequence of the parameters; wrong are (error, values) by names.
    What stands behind the wrong parameter is wrong, too, in half of the calls: the first wrong one decides.
    """
    names = list(right)
    for at, name in enumerate(names):
        if name not in wrong:
            continue
        error, values = wrong[name]
        for value in values:
            told = dict(right)
            told[name] = value
            worst = dict(told)
            for later in names[at + 1:]:
                if later in wrong:
                    worst[later] = wrong[later][1][0]
            for arguments in (told, worst):
                refused(test, error, value, function, *arguments.values())
                refused(test, error, value, function, **arguments)


def refused(test, error, value, function, /, *places, **named):
    """The call raises just this error, with the value that was passed."""
    with test.assertRaises(error, msg=f"{function} {places} {named}") as caught:
        function(*places, **named)
    test.assertIs(type(caught.exception), error)
    test.assertIs(caught.exception.value, value)


def stopped(test, error, function, /, *places, **named):
    """The call raises just this error; the error is returned."""
    with test.assertRaises(error) as caught:
        function(*places, **named)
    test.assertIs(type(caught.exception), error)
    return caught.exception


def all_words(letters, length):
    """The words of at most this length, in the sequence."""
    return ["".join(word) for many in range(length + 1) for word in all_of("abc"[:letters], repeat=many)]


def led(steps, word):
    """The state to which a word leads from the state 0."""
    state = 0
    for sign in word:
        state = steps[state]["abc".index(sign)]
    return state


def told(letters, steps, ends, length):
    """The words of at most this length that lead to an end."""
    return [word for word in all_words(letters, length) if led(steps, word) in ends]


def chance_steps(seed, letters, states):
    """Steps and ends by chance, the same for the same seed."""
    chance = Random(seed)
    steps = [[chance.randrange(states) for _ in range(letters)] for _ in range(states)]
    return steps, [state for state in range(states) if chance.randrange(3) == 0]


def chance_machine(seed, letters, states):
    """A Machine by chance, the same for the same seed."""
    return Machine(letters, *chance_steps(seed, letters, states))


def chain(many):
    """A machine of many states over a: it lets the words of many - 1 and more signs."""
    return Machine(1, [[min(state + 1, many - 1)] for state in range(many)], [many - 1])
