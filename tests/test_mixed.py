"""[44], [45] mixed words, and patterns that are alike."""

import unittest
from itertools import product as all_of

from by_hand import X, Y, Z, chance_pattern, either, made_by_hand, row, star, word
from helpers import JUNK, stopped, wrongs
from test_machines import EVEN
from test_patterns import WRONG_PATTERNS
from test_words import WRONG_LETTERS
from widefills.errors import InvalidPattern
from widefills.patterns import are_alike, is_mixed, is_pattern, mixed_parting

A, B = word("a"), word("b")
# Pairs of patterns that are written otherwise, and make the same.
ALIKE = (
    (X, X), (star(star(X)), star(X)), (star(star(star(X))), star(X)), (either(X, Y), either(Y, X)), (either(X, X), X),
    (either(either(X, Y), Z), either(Z, either(Y, X))), (row(row(X, Y), Z), row(X, row(Y, Z))),
    (star(either(X, Y)), star(row(star(X), star(Y)))), (star(either(X, Y)), row(star(X), star(row(Y, star(X))))),
    (row(X, star(row(Y, X))), row(star(row(X, Y)), X)), (row(X, either(Y, Z)), either(row(X, Y), row(X, Z))),
    (row(either(Y, Z), X), either(row(Y, X), row(Z, X))), (either(star(row(X, X)), row(X, star(row(X, X)))), star(X)),
    (row(word(""), X), X), (row(X, word("")), X), (star(either(X, word(""))), star(X)), (row(A, B), word("ab")),
    (row(star(A), star(A)), star(A)), (either(word(""), row(X, star(X))), star(X)), (star(word("")), word("")),
    (star(row(star(X), Y)), either(word(""), row(star(either(X, Y)), Y))), (either(star(X), X), star(X)),
    (star(either(X, row(X, X))), star(X)), (either(word("aa"), row(A, A)), word("aa")),
    (star(either(word("aaa"), word("aa"))), either(word(""), row(word("aa"), star(A)))),
)
# Each with the first mixed word that just one of both makes.
UNLIKE = (
    (X, Y, [0]), (X, row(X, X), [0]), (star(X), row(X, star(X)), []), (row(X, Y), row(Y, X), [0, 1]), (A, X, ["a"]),
    (B, A, ["a"]), (star(either(A, X)), star(either(A, Y)), [0]), (star(A), star(either(A, X)), [0]),
    (either(A, either(B, X)), either(A, B), [0]), (star(either(A, B)), star(B), ["a"]), (word(""), star(A), ["a"]),
    (star(X), star(row(X, X)), [0]), (row(X, star(A), Y), row(X, star(B), Y), [0, "a", 1]), (word(""), Z, []),
    (either(row(Y, Z), row(Z, Y)), row(Z, Z), [1, 2]), (row(X, A), row(X, B), [0, "a"]), (row(A, X), row(B, X), ["a", 0]),
    (star(row(X, A, Y)), star(row(X, A, Z)), [0, "a", 1]), (row(A, X), row(A, A), ["a", "a"]),
    (star(row(A, A, A)), star(row(A, A, A, A)), ["a"] * 3), (either(row(X, X), A), either(A, row(X, Y)), [0, 0]),
)


def sequence(mixed):
    """What mixed words are sorted by: their length, then signs ahead of names."""
    return len(mixed), [(isinstance(thing, int), thing) for thing in mixed]


def mixed_words(letters, length):
    """All mixed words of at most this length, in the sequence."""
    things = [*"abc"[:letters], 0, 1, 2]
    return [mixed for many in range(length + 1) for mixed in all_of(things, repeat=many)]


def sides(pattern):
    """The pattern, with the sides of each "either" turned, and doubled."""
    if pattern[0] in ("word", "name"):
        return pattern
    inner = [sides(part) for part in pattern[1:]]
    if pattern[0] == "either":
        return ("either", inner[1], ("either", inner[0], inner[1]))
    return (pattern[0], *inner)


class IsMixed(unittest.TestCase):

    def test_by_hand(self):
        for seed in range(120):
            letters = 1 + seed % 3
            length = {1: 4, 2: 4, 3: 3}[letters]
            pattern = chance_pattern(seed, letters, 3, 1 + seed % 9)
            made = made_by_hand(pattern, None, length)
            for mixed in mixed_words(letters, length):
                self.assertIs(is_mixed(letters, pattern, mixed), mixed in made, (pattern, mixed))

    def test_a_name_makes_itself(self):
        self.assertIs(is_mixed(1, X, [0]), True)
        self.assertIs(is_mixed(1, X, ["a"]), False)
        self.assertIs(is_mixed(1, X, []), False)
        self.assertIs(is_mixed(2, row(X, word("ab"), Y), [0, "a", "b", 1]), True)
        self.assertIs(is_mixed(value=(2, 2), pattern=star(Z), letters=3), True)

    def test_sixty_things(self):
        for many in range(57, 64):
            self.assertIs(is_mixed(1, star(A), ["a"] * many), many <= 60)
            self.assertIs(is_mixed(1, star(X), (0,) * many), many <= 60)
        self.assertIs(is_mixed(1, row(word("a" * 60), A), ["a"] * 61), False)

    def test_any_value(self):
        every = star(either(A, B, X, Y, Z))
        for value in ([], (), ["a", 0, 2], ("b", 1)):
            self.assertIs(is_mixed(2, every, value), True)
        for value in JUNK + (
                0, "", "a", "ab", ["aa"], [""], ["ab"], ["c"], ["a", "c"], ["A"], [3], [-1], [True], [False], ["0"],
                [None], [["a"]], [("a",)], [[0]], [b"a"], ["a", True], {"a": 0}, {0: "a"}, [10 ** 30], [EVEN], ["X"]):
            self.assertIs(is_mixed(2, every, value), False, value)
        self.assertIs(is_mixed(3, star(either(every, word("c"))), ["c"]), True)
        self.assertIs(is_mixed(1, star(A), ["b"]), False)

    def test_what_was_passed(self):
        mixed = ["a", 0]
        is_mixed(1, row(A, X), mixed)
        self.assertEqual(mixed, ["a", 0])


class Alike(unittest.TestCase):

    def test_written_otherwise(self):
        for one, other in ALIKE:
            for near, far in ((one, other), (other, one), (star(one), star(other)), (row(Y, one), row(Y, other))):
                self.assertIs(are_alike(2, near, far), True, (near, far))
                self.assertIsNone(mixed_parting(2, near, far))

    def test_sides_turned_and_doubled(self):
        for seed in range(150):
            pattern = chance_pattern(seed, 2, 3, 1 + seed % 10)
            if is_pattern(2, sides(pattern)):
                self.assertIs(are_alike(2, pattern, sides(pattern)), True)

    def test_the_first_one(self):
        for one, other, first in UNLIKE:
            for near, far in ((one, other), (other, one)):
                self.assertEqual(mixed_parting(2, near, far), first)
                self.assertIs(are_alike(2, near, far), False)
        self.assertEqual(mixed_parting(3, word("c"), X), ["c"])
        self.assertEqual(mixed_parting(other=Y, letters=1, pattern=star(Y)), [])
        self.assertIs(are_alike(other=Y, letters=1, pattern=star(Y)), False)

    def test_by_hand(self):
        alike = 0
        for seed in range(400):
            letters = 1 + seed % 2
            one = chance_pattern(seed, letters, 1 + seed % 3, 1 + seed % 6, ("", "a", "b"))
            other = chance_pattern(seed + 5000, letters, 1 + seed % 3, 1 + seed % 7, ("", "a", "b"))
            apart = sorted(made_by_hand(one, None, 5) ^ made_by_hand(other, None, 5), key=sequence)
            told = mixed_parting(letters, one, other)
            self.assertIs(are_alike(letters, one, other), told is None)
            if apart:
                self.assertEqual(told, list(apart[0]))
            elif told is not None:
                self.assertGreater(len(told), 5)
            else:
                alike += 1
        self.assertGreater(alike, 5)

    def test_just_one_makes_it(self):
        for seed in range(200):
            one, other = chance_pattern(seed, 2, 3, 12), chance_pattern(seed + 900, 2, 3, 12)
            told = mixed_parting(2, one, other)
            if told is not None:
                self.assertIs(is_mixed(2, one, told), not is_mixed(2, other, told))

    def test_by_which_only_names_part(self):
        """With all fillings by words of these letters both make the same, but not by words of further ones."""
        self.assertEqual(mixed_parting(2, star(either(A, B)), star(either(A, B, X))), [0])
        self.assertEqual(mixed_parting(1, row(star(A), Z, star(A)), row(star(A), Z)), [2, "a"])

    def test_further_letters(self):
        """A name is no lot of words over the pattern's letters alone."""
        every = star(A)
        self.assertIs(are_alike(1, either(every, X), every), False)
        self.assertIs(are_alike(1, row(every, X), row(X, every)), False)

    def test_long_words(self):
        long = [word("a" * many) for many in (60, 59, 58, 57)]
        self.assertIs(are_alike(1, star(either(*long[:2])), star(either(long[1], long[0], row(*long[:2])))), True)
        # Rounds of unlike lengths lead to endlessly many unlike lots of places.
        self.assertIs(are_alike(1, either(*map(star, long)), either(*map(star, long[::-1]))), True)
        self.assertEqual(mixed_parting(1, star(long[0]), star(either(long[0], long[1]))), ["a"] * 59)
        # What parts them has more things than a mixed word: it is told all the same.
        self.assertEqual(mixed_parting(2, row(long[0], A), row(long[0], B)), ["a"] * 61)
        self.assertIs(are_alike(2, row(long[0], A), row(long[0], B)), False)

    def test_new(self):
        one, other = row(X, star(A), Y), row(X, star(B), Y)
        told = mixed_parting(2, one, other)
        self.assertIs(type(told), list)
        told.append(9)
        self.assertEqual(mixed_parting(2, one, other), [0, "a", 1])


class Wrong(unittest.TestCase):

    def test_all(self):
        wrong = {"letters": WRONG_LETTERS, "pattern": WRONG_PATTERNS, "other": WRONG_PATTERNS}
        wrongs(self, is_mixed, {"letters": 2, "pattern": X, "value": []}, wrong)
        wrongs(self, are_alike, {"letters": 2, "pattern": X, "other": Y}, wrong)
        wrongs(self, mixed_parting, {"letters": 2, "pattern": X, "other": Y}, wrong)

    def test_letters(self):
        for function in (are_alike, mixed_parting):
            self.assertEqual(stopped(self, InvalidPattern, function, 1, X, B).value, B)
            self.assertEqual(stopped(self, InvalidPattern, function, 1, B, X).value, B)
        stopped(self, InvalidPattern, is_mixed, 1, B, [])


if __name__ == "__main__":
    unittest.main()
