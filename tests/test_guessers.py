"""[71], [72] guessers, states of use, states made one."""

import unittest
from itertools import combinations
from random import Random

from helpers import JUNK, all_words, stopped, wrongs
from test_machines import EVEN
from test_tables import BOTH
from test_words import WRONG_LETTERS
from widefills.errors import (InvalidBegins, InvalidEnds, InvalidGuesser, InvalidLetters, InvalidState, InvalidSteps,
                              TooMany)
from widefills.guessers import Guesser, is_of_use, merged, of_use, tells
from widefills.machines import Machine, words_of
from widefills.makings import is_within, of_words

PICK = Guesser(2, [[[0, 1], [0]], [[], []], [[2], [2]]], [0], [1])
# Of two letters.
WRONG_STEPS = (InvalidSteps, JUNK + (
    0, "", "a", [0], [[]], [[[]]], [[[], [], []]], [[[0], [1]]], [[[0, 0], []]], [[[True], []]], [[[False], []]],
    [[[0], None]], [[0, 0]], [[[0], 0]], [[[0], ["0"]]], [[[0], [-1]]], [[[], []], [[]]], [[[], []], [[], [], []]],
    [[[], []], [[2], []]], [[[], []], None], [{0: 0, 1: 0}], [({0}, {0})], {0: [[], []]}, [[[10 ** 30], []]],
    [[[], []]] * 41, tuple([([], [])] * 41), [[[[0]], []]], ["ab"], EVEN, [EVEN]))
# Of two states.
WRONG_LOTS_OF_STATES = JUNK + (0, "", "0", [2], [0, 2], [-1], [0, 0], (1, 0, 1), [True], [False], [0, True], [None],
                               ["0"], [[0]], [(0,)], [10 ** 30], [0, 1, 2], EVEN)
WRONG_BEGINS, WRONG_ENDS = (InvalidBegins, WRONG_LOTS_OF_STATES), (InvalidEnds, WRONG_LOTS_OF_STATES)
WRONG_GUESSERS = (InvalidGuesser, JUNK + (0, "", [], (), EVEN, BOTH, [PICK], (PICK,), Guesser))
# Of the guesser PICK, of three states.
WRONG_STATES = (InvalidState, JUNK + (3, 4, 40, "", "0", [], [0], (1,), EVEN))


def chance_parts(seed, letters, states):
    """Letters, steps, begins and ends by chance, the same for the same seed."""
    chance = Random(seed)
    dense = chance.choice([0.5, 1, 1.5]) / max(states, 1)

    def lot(share):
        return [state for state in range(states) if chance.random() < share]

    return letters, [[lot(dense) for _ in range(letters)] for _ in range(states)], lot(0.4), lot(0.3)


def ways(steps, starts, word):
    """The states to which ways lead from these by the word, gone by hand."""
    for sign in word:
        starts = {after for state in starts for after in steps[state]["abc".index(sign)]}
    return set(starts)


def told_by_hand(parts, length):
    letters, steps, begins, ends = parts
    return [word for word in all_words(letters, length) if ways(steps, begins, word) & set(ends)]


def of_use_by_hand(parts):
    """The states with a past and a future, by words that are as long as there are states."""
    letters, steps, begins, ends = parts
    past, future = set(begins), set(ends)
    for _ in steps:
        past |= {after for state in past for lot in steps[state] for after in lot}
        future |= {state for state, row in enumerate(steps) if any(set(lot) & future for lot in row)}
    return sorted(past & future)


def parts_of(guesser):
    return guesser.letters, guesser.steps(), guesser.begins(), guesser.ends()


def renamed(parts, kept):
    """The parts of these states alone, numbered by their sequence; kept tells the new number of each."""
    letters, steps, begins, ends = parts
    found = [[set() for _ in range(letters)] for _ in range(len(set(kept.values())))]
    for state, row in enumerate(steps):
        for letter, lot in enumerate(row):
            if state in kept:
                found[kept[state]][letter] |= {kept[after] for after in lot if after in kept}
    return (letters, [[sorted(lot) for lot in row] for row in found], sorted({kept[one] for one in begins if one in kept}),
            sorted({kept[one] for one in ends if one in kept}))


CASES = [chance_parts(seed, 1 + seed % 3, seed % 7) for seed in range(150)]


class Guessers(unittest.TestCase):

    def test_told_rising(self):
        guesser = Guesser(2, [[[1, 0], []], ((), (2, 0, 1)), [[2], [1]]], (2, 0), [1, 0])
        self.assertEqual(parts_of(guesser), (2, [[[0, 1], []], [[], [0, 1, 2]], [[2], [1]]], [0, 2], [0, 1]))
        self.assertEqual(guesser.states, 3)
        for kind in (guesser.steps(), guesser.steps()[0], guesser.steps()[1][1], guesser.begins(), guesser.ends()):
            self.assertIs(type(kind), list)

    def test_what_is_kept(self):
        """Guessers are not changed to others that tell the same."""
        for parts in CASES:
            guesser = Guesser(*parts)
            self.assertEqual(parts_of(guesser), parts)
            self.assertEqual(guesser.states, len(parts[1]))
            turned = Guesser(parts[0], tuple(tuple(tuple(lot[::-1]) for lot in row) for row in parts[1]),
                             parts[2][::-1], tuple(parts[3][::-1]))
            self.assertEqual(parts_of(turned), parts)
            self.assertIs(guesser == turned, True)

    def test_many_states(self):
        none = Guesser(letters=3, steps=[], begins=(), ends=[])
        self.assertEqual((none.states, none.steps(), none.begins(), none.ends()), (0, [], [], []))
        for many in (1, 39, 40):
            guesser = Guesser(1, [[list(range(many))]] + [[[]]] * (many - 1), [many - 1], [0])
            self.assertEqual(guesser.states, many)
        for many in (41, 42, 60):
            steps = [[[]]] * many
            self.assertIs(stopped(self, InvalidSteps, Guesser, 1, steps, [], []).value, steps)

    def test_equal(self):
        parts = (2, [[[0, 1], [0]], [[], []]], [0], [1])
        guesser = Guesser(*parts)
        self.assertIs(guesser == Guesser(*parts), True)
        self.assertIs(guesser != Guesser(*parts), False)
        for other in ((2, [[[0, 1], [0]], [[], []]], [0], [0]), (2, [[[0, 1], [0]], [[], []]], [1], [1]),
                      (2, [[[0, 1], [0]], [[], [0]]], [0], [1]), (2, [[[0], [0]], [[], []]], [0], [1]),
                      (2, [[[0, 1], [0]], [[], []], [[], []]], [0], [1]), (2, [[[0], [0, 1]], [[], []]], [0], [1])):
            self.assertIs(guesser == Guesser(*other), False)
            self.assertIs(guesser != Guesser(*other), True)
        self.assertIs(Guesser(1, [], [], []) == Guesser(2, [], [], []), False)
        # They tell the same, but not by the same states.
        self.assertIs(Guesser(1, [], [], []) == Guesser(1, [[[]]], [], []), False)
        for value in JUNK + (0, "", [], parts, EVEN, tells(guesser)):
            self.assertIs(guesser == value, False)
            self.assertIs(guesser != value, True)

    def test_copies(self):
        steps, begins, ends = [[[1], [0]], [[], [1]]], [0], [1]
        guesser = Guesser(2, steps, begins, ends)
        self.assertEqual((steps, begins, ends), ([[[1], [0]], [[], [1]]], [0], [1]))
        steps[0][0].append(0)
        steps[1].append([])
        steps.pop()
        begins.append(1)
        ends.clear()
        wanted = (2, [[[1], [0]], [[], [1]]], [0], [1])
        self.assertEqual(parts_of(guesser), wanted)
        told = guesser.steps()
        told[0][0].append(7)
        told[1].pop()
        told.pop()
        guesser.begins().append(7)
        guesser.ends().append(7)
        self.assertEqual(parts_of(guesser), wanted)
        seen = [guesser.steps() for _ in range(2)]
        inner = seen + [row for one in seen for row in one] + [lot for one in seen for row in one for lot in row]
        self.assertEqual(len({id(one) for one in inner}), len(inner))

    def test_one_list_passed_twice(self):
        lot = [0]
        guesser = Guesser(2, [[lot, lot]], lot, lot)
        lot.append(1)
        self.assertEqual(parts_of(guesser), (2, [[[0], [0]]], [0], [0]))


class Tells(unittest.TestCase):

    def test_by_hand(self):
        for parts in CASES:
            length = {1: 6, 2: 6, 3: 4}[parts[0]]
            machine = tells(Guesser(*parts))
            self.assertEqual(machine.letters, parts[0])
            self.assertEqual(words_of(machine, length), told_by_hand(parts, length))

    def test_least(self):
        self.assertEqual(tells(PICK), Machine(2, [[1, 0], [1, 0]], [1]))
        self.assertEqual(tells(guesser=Guesser(2, [[[1], [0]], [[0], [1]]], [0], [0])), EVEN)

    def test_no_begins_no_ends_no_steps(self):
        nothing = of_words(2, [])
        steps = [[[0, 1], [1]], [[0], [0, 1]]]
        for guesser in (Guesser(2, [], [], []), Guesser(2, steps, [], [0, 1]), Guesser(2, steps, [0, 1], []),
                        Guesser(2, [[[], []], [[], []]], [0], [1])):
            self.assertEqual(tells(guesser), nothing)
        self.assertEqual(tells(Guesser(2, [[[], []], [[], []]], [0, 1], [1])), of_words(2, [""]))

    def test_too_many_states(self):
        error = stopped(self, TooMany, tells, far_from_the_end(6))
        self.assertEqual((error.what, error.limit), ("states", 60))
        self.assertEqual(tells(far_from_the_end(5)).states, 32)
        stopped(self, TooMany, tells, far_from_the_end(39))
        self.assertEqual(tells(cycles(4, 15)).states, 60)
        stopped(self, TooMany, tells, cycles(5, 13))
        stopped(self, TooMany, tells, cycles(2, 3, 5, 7, 11))

    def test_small_though_there_are_many_lots_of_states(self):
        far = far_from_the_end(38)
        steps = far.steps() + [[[39], [39]]]
        self.assertEqual(tells(Guesser(2, steps, [0, 39], [38, 39])), Machine(2, [[0, 0]], [0]))


def far_from_the_end(many):
    """Words whose sign so many places ahead of the end is a: 2 ** many states."""
    steps = [[[0, 1], [0]]] + [[[at + 1]] * 2 for at in range(1, many)] + [[[], []]]
    return Guesser(2, steps, [0], [many])


def cycles(*lengths):
    """Words of a whose length some of these does not divide."""
    steps, begins, ends = [], [], []
    for many in lengths:
        first = len(steps)
        steps += [[[first + (state + 1) % many]] for state in range(many)]
        begins.append(first)
        ends += range(first + 1, first + many)
    return Guesser(1, steps, begins, ends)


class OfUse(unittest.TestCase):

    def test_by_hand(self):
        seen = []
        for parts in CASES:
            kept, guesser = of_use_by_hand(parts), Guesser(*parts)
            told = of_use(guesser)
            self.assertEqual(parts_of(told), renamed(parts, {state: at for at, state in enumerate(kept)}))
            self.assertIs(is_of_use(guesser), len(kept) == len(parts[1]))
            self.assertIs(is_of_use(told), True)
            self.assertEqual(of_use(told), told)
            self.assertEqual(tells(told), tells(guesser))
            self.assertEqual(parts_of(guesser), parts)
            seen.append(is_of_use(guesser))
        self.assertEqual(set(seen), {True, False})

    def test_neither_past_nor_future(self):
        for begins, ends, right in (([0], [1], True), ([1], [1], False), ([0], [0], False), ([0, 1], [0, 1], True),
                                    ([], [1], False), ([0], [], False), ([0, 1], [1], True), ([1], [0], False)):
            self.assertIs(is_of_use(Guesser(1, [[[1]], [[]]], begins, ends)), right)
        self.assertIs(is_of_use(guesser=Guesser(1, [], [], [])), True)
        self.assertEqual(of_use(guesser=Guesser(3, [[[], [], []]], [], [0])), Guesser(3, [], [], []))
        # Begin and end at once: the empty word is of both its past and its future.
        self.assertIs(is_of_use(Guesser(1, [[[]]], [0], [0])), True)

    def test_pick(self):
        self.assertEqual(parts_of(of_use(PICK)), (2, [[[0, 1], [0]], [[], []]], [0], [1]))
        self.assertIs(is_of_use(PICK), False)


class Merged(unittest.TestCase):

    def test_by_hand(self):
        for parts in CASES:
            guesser = Guesser(*parts)
            for near, far in combinations(range(len(parts[1])), 2):
                kept = {state: near if state == far else state - (state > far) for state in range(len(parts[1]))}
                wanted = renamed(parts, kept)
                self.assertEqual(parts_of(merged(guesser, near, far)), wanted)
                self.assertEqual(parts_of(merged(guesser, far, near)), wanted)
                self.assertIs(is_within(tells(guesser), tells(merged(guesser, near, far))), True)
            self.assertEqual(parts_of(guesser), parts)

    def test_steps_to_itself(self):
        guesser = Guesser(1, [[[1]], [[2]], [[0, 2]]], [0], [2])
        self.assertEqual(parts_of(merged(guesser, 0, 1)), (1, [[[0, 1]], [[0, 1]]], [0], [1]))
        self.assertEqual(parts_of(merged(guesser, 2, 1)), (1, [[[1]], [[0, 1]]], [0], [1]))
        self.assertEqual(parts_of(merged(far=2, near=0, guesser=guesser)), (1, [[[0, 1]], [[0]]], [0], [0]))

    def test_what_is_behind_moves_up(self):
        guesser = Guesser(1, [[[3]], [[]], [[1]], [[3, 2]]], [1, 3], [3, 0])
        self.assertEqual(parts_of(merged(guesser, 0, 1)), (1, [[[2]], [[0]], [[1, 2]]], [0, 2], [0, 2]))
        self.assertEqual(parts_of(merged(guesser, 3, 2)), (1, [[[2]], [[]], [[1, 2]]], [1, 2], [0, 2]))

    def test_new(self):
        told = merged(PICK, 0, 1)
        told.steps()[0][0].append(9)
        self.assertEqual(told, merged(PICK, 1, 0))
        self.assertEqual(PICK.states, 3)
        self.assertEqual(merged(Guesser(1, [[[0]], [[1]]], [0], [1]), 0, 1).states, 1)


class Wrong(unittest.TestCase):

    def test_guesser(self):
        wrong = {"letters": WRONG_LETTERS, "steps": WRONG_STEPS, "begins": WRONG_BEGINS, "ends": WRONG_ENDS}
        wrongs(self, Guesser, {"letters": 2, "steps": [[[0], [1]], [[], []]], "begins": [0], "ends": [1]}, wrong)
        stopped(self, InvalidSteps, Guesser, 1, [[[], []]], [], [])
        stopped(self, InvalidSteps, Guesser, 3, [[[], []]], [], [])
        stopped(self, InvalidBegins, Guesser, 3, [], [0], [0])
        stopped(self, InvalidEnds, Guesser, 3, [], [], [0])
        stopped(self, InvalidLetters, Guesser, 4, [], [], [])

    def test_functions(self):
        wrong = {"guesser": WRONG_GUESSERS, "near": WRONG_STATES, "far": WRONG_STATES}
        for function in (tells, is_of_use, of_use):
            wrongs(self, function, {"guesser": PICK}, wrong)
        wrongs(self, merged, {"guesser": PICK, "near": 2, "far": 0}, wrong)

    def test_another_state(self):
        for state in range(3):
            self.assertEqual(stopped(self, InvalidState, merged, PICK, state, state).value, state)
        stopped(self, InvalidState, merged, Guesser(1, [], [], []), 0, 1)
        stopped(self, InvalidState, merged, Guesser(1, [[[]]], [], []), 0, 1)
        self.assertEqual(stopped(self, InvalidState, merged, PICK, 3, 3).value, 3)


if __name__ == "__main__":
    unittest.main()
