"""The least machine of what is told by guessing, against all subsets made one by one."""

import unittest
from random import Random

from helpers import stopped
from widefills.errors import TooMany
from widefills.least import least_form
from widefills.subsets import alive, least_by_tests, least_of_guesses


def least_by_all_subsets(steps, begins, ends):
    """The same as least_of_guesses, from a machine of all subsets."""
    places, order, rows = {begins: 0}, [begins], []
    while len(rows) < len(order):
        row = []
        for letter in steps:
            after = 0
            for state, lot in enumerate(letter):
                if order[len(rows)] >> state & 1:
                    after |= lot
            if after not in places:
                places[after] = len(order)
                order.append(after)
            row.append(places[after])
        rows.append(row)
    return least_form(len(steps), rows, [place for place, lot in enumerate(order) if lot & ends])


def guesses(seed):
    chance = Random(seed)
    letters, states = chance.randrange(1, 4), chance.randrange(1, 9)
    dense = chance.choice([0.6, 1, 1.4, 2])
    steps = [[sum(1 << state for state in range(states) if chance.random() < dense / states) for _ in range(states)]
             for _ in range(letters)]
    return steps, chance.randrange(1 << states), chance.randrange(1 << states)


def far_from_the_end(many):
    """Words over a and b whose sign so many places ahead of the end is a: 2 ** many states."""
    steps = [[[1 << 0 | 1 << 1], [1 << 0]][letter] + [1 << (at + 1) for at in range(1, many)] + [0]
             for letter in range(2)]
    return steps, 1, 1 << many


def cycles(*lengths):
    """Words of a whose length some of these does not divide, by a cycle of each length."""
    rows, begins, ends = [], 0, 0
    for many in lengths:
        first = len(rows)
        rows += [1 << (first + (state + 1) % many) for state in range(many)]
        begins |= 1 << first
        ends |= sum(1 << (first + state) for state in range(1, many))
    return [rows], begins, ends


def by_tests(steps, begins, ends):
    """Also where there are few subsets, without making all of them."""
    steps, begins = alive(steps, begins, ends)
    return least_by_tests(steps, begins, ends)


class Guesses(unittest.TestCase):

    def test_against_all_subsets(self):
        many = []
        for seed in range(300):
            steps, begins, ends = guesses(seed)
            try:
                wanted = least_by_all_subsets(steps, begins, ends)
            except TooMany:
                stopped(self, TooMany, least_of_guesses, steps, begins, ends)
                stopped(self, TooMany, by_tests, steps, begins, ends)
                continue
            self.assertEqual(least_of_guesses(steps, begins, ends), wanted, seed)
            self.assertEqual(by_tests(steps, begins, ends), wanted, seed)
            many.append(len(wanted[0]))
        self.assertGreater(max(many), 20)

    def test_at_the_bound(self):
        for function in (least_of_guesses, by_tests):
            self.assertEqual(len(function(*far_from_the_end(5))[0]), 32)
            for many in (6, 10, 40):
                error = stopped(self, TooMany, function, *far_from_the_end(many))
                self.assertEqual((error.what, error.limit), ("states", 60))

    def test_small_though_there_are_many_subsets(self):
        """Whatever follows, the word is told: no subset but the first kind is kept."""
        steps, begins, ends = far_from_the_end(40)
        for rows in steps:
            rows.append(1 << 41)
        self.assertEqual(least_of_guesses(steps, begins | 1 << 41, ends | 1 << 41), ([[0, 0]], [0]))

    def test_first_wrong_far_away(self):
        """All words are told but those whose length is a multiple of all lengths."""
        for function in (least_of_guesses, by_tests):
            for lengths, many in (((3, 4), 12), ((4, 5), 20), ((3, 4, 5), 60)):
                self.assertEqual(function(*cycles(*lengths)), (
                    [[(state + 1) % many] for state in range(many)], list(range(1, many))))
            for lengths in ((7, 9), (3, 5, 7), (2, 3, 5, 7, 11), (3, 5, 7, 11)):
                error = stopped(self, TooMany, function, *cycles(*lengths))
                self.assertEqual((error.what, error.limit), ("states", 60))
            rows, begins, ends = cycles(2, 3, 5, 7, 11)
            # With both states of the cycle of two as ends all words are told.
            self.assertEqual(function(rows, begins, ends | 1), ([[0]], [0]))

    def test_nothing_told(self):
        for function in (least_of_guesses, by_tests):
            self.assertEqual(function([[0], [0]], 0, 1), ([[0, 0]], []))
            self.assertEqual(function([[1], [1]], 1, 0), ([[0, 0]], []))
            self.assertEqual(function([[]], 0, 0), ([[0]], []))


if __name__ == "__main__":
    unittest.main()
