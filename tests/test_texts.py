"""[91] words, machines, patterns, lots, guessers and views written."""

import unittest

from by_hand import X, Y, Z, chance_pattern, either, row, star, word
from helpers import all_words, chain, chance_machine, wrongs
from test_guessers import CASES, PICK, WRONG_GUESSERS
from test_machines import EVEN, WRONG_MACHINES, WRONG_WORDS
from test_middles import EVENS, WRONG_FILLINGS
from test_patterns import WRONG_PATTERNS
from test_tables import BOTH, WRONG_TABLES
from test_views import WRONG_VIEWS
from test_words import WRONG_LETTERS
from widefills.guessers import Guesser
from widefills.machines import Machine
from widefills.makings import of_words
from widefills.readers import (parse_guesser, parse_lots, parse_machine, parse_pattern, parse_views, parse_word)
from widefills.texts import guesser_text, lots_text, machine_text, pattern_text, views_text, word_text


class Words(unittest.TestCase):

    def test_signs(self):
        for one in all_words(3, 3)[1:]:
            self.assertEqual(word_text(3, one), one)
        self.assertEqual(word_text(1, ""), "-")
        self.assertEqual(word_text(word="a" * 60, letters=1), "a" * 60)

    def test_read_again(self):
        for one in all_words(3, 3) + ["abc" * 20]:
            self.assertEqual(parse_word(3, word_text(3, one)), one)


class Machines(unittest.TestCase):

    def test_by_hand(self):
        self.assertEqual(machine_text(EVEN), "2: 1,0; 0,1 / 0")
        self.assertEqual(machine_text(of_words(3, [])), "3: 0,0,0 / -")
        self.assertEqual(machine_text(Machine(1, [[0]], [0])), "1: 0 / 0")
        self.assertEqual(machine_text(machine=Machine(1, [[1], [2], [1]], [2, 0])), "1: 1; 0 / 0")
        self.assertEqual(machine_text(of_words(2, ["ab", ""])), "2: 1,2; 2,3; 2,2; 2,2 / 0,3")

    def test_many_states(self):
        self.assertEqual(machine_text(chain(12)), "1: " + "; ".join(map(str, list(range(1, 12)) + [11])) + " / 11")
        long = of_words(1, ["a" * 58])
        self.assertEqual(machine_text(long), "1: " + "; ".join(map(str, list(range(1, 60)) + [59])) + " / 58")

    def test_read_again(self):
        for seed in range(60):
            machine = chance_machine(seed, 1 + seed % 3, 1 + seed % 12)
            self.assertEqual(parse_machine(machine_text(machine)), machine)


class Patterns(unittest.TestCase):

    def test_by_hand(self):
        for pattern, text in (
                (X, "X"), (Y, "Y"), (Z, "Z"), (word(""), "-"), (word("abc"), "abc"), (row(X, Y), "(X.Y)"),
                (either(X, word("")), "(X|-)"), (star(X), "X*"), (star(star(word("ab"))), "ab**"),
                (star(row(X, star(Y))), "(X.Y*)*"), (row(row(X, Y), Z), "((X.Y).Z)"), (row(X, row(Y, Z)), "(X.(Y.Z))"),
                (either(row(X, word("ab")), star(word(""))), "((X.ab)|-*)"), (star(either(X, Y)), "(X|Y)*")):
            self.assertEqual(pattern_text(3, pattern), text)
            self.assertEqual(pattern_text(pattern=pattern, letters=3), text)

    def test_read_again(self):
        for seed in range(200):
            letters = 1 + seed % 3
            pattern = chance_pattern(seed, letters, 3, 1 + seed % 8)
            self.assertEqual(parse_pattern(letters, pattern_text(letters, pattern)), pattern)


class Lots(unittest.TestCase):

    def test_by_hand(self):
        for lots, text in (([[]], "-"), ([[0]], "0"), ([[1, 0], []], "0,1; -"), (((4, 2, 3), [], (0,)), "2,3,4; -; 0")):
            self.assertEqual(lots_text(BOTH, lots), text)
            self.assertEqual(lots_text(lots=lots, table=BOTH), text)

    def test_read_again(self):
        for lots in ([[0, 1]], [[], [1]], [[0], [0, 1], []]):
            self.assertEqual(parse_lots(EVENS, lots_text(EVENS, lots)), lots)

    def test_what_is_passed_stays(self):
        lots = [[1, 0], []]
        lots_text(EVENS, lots)
        self.assertEqual(lots, [[1, 0], []])


class Guessers(unittest.TestCase):

    def test_by_hand(self):
        for parts, text in (
                ((1, [], [], []), "1: - / none / -"), ((3, [], [], []), "3: - / none / -"),
                ((2, [[[0, 1], []], [[], [1]]], [0], [1]), "2: 0 / 0+1,-; -,1 / 1"),
                ((1, [[[1, 0]], [[]], [[2]]], [2, 0], [1, 2]), "1: 0,2 / 0+1; -; 2 / 1,2"),
                ((3, [[[], [0], []]], [], [0]), "3: - / -,0,- / 0")):
            self.assertEqual(guesser_text(Guesser(*parts)), text)
        self.assertEqual(guesser_text(guesser=PICK), "2: 0 / 0+1,0; -,-; 2,2 / 1")

    def test_read_again(self):
        for parts in CASES:
            self.assertEqual(parse_guesser(guesser_text(Guesser(*parts))), Guesser(*parts))


class Views(unittest.TestCase):

    def test_by_hand(self):
        last = Machine(2, [[1, 0], [1, 0]], [1])
        self.assertEqual(views_text([EVEN]), machine_text(EVEN))
        self.assertEqual(views_text((EVEN, last)), "2: 1,0; 0,1 / 0 & 2: 1,0; 1,0 / 1")
        self.assertEqual(views_text(views=[of_words(1, [])] * 3), "1: 0 / - & 1: 0 / - & 1: 0 / -")

    def test_read_again(self):
        for seed in range(30):
            views = [chance_machine(seed * 3 + place, 1 + seed % 3, 1 + seed % 5) for place in range(1 + seed % 3)]
            self.assertEqual(parse_views(views_text(views)), views)


class Wrong(unittest.TestCase):

    def test_all(self):
        wrong = {"machine": WRONG_MACHINES, "guesser": WRONG_GUESSERS, "views": WRONG_VIEWS, "letters": WRONG_LETTERS,
                 "pattern": WRONG_PATTERNS, "table": WRONG_TABLES, "lots": WRONG_FILLINGS}
        wrongs(self, machine_text, {"machine": EVEN}, wrong)
        wrongs(self, guesser_text, {"guesser": PICK}, wrong)
        wrongs(self, views_text, {"views": [EVEN]}, wrong)
        wrongs(self, pattern_text, {"letters": 2, "pattern": X}, wrong)
        wrongs(self, lots_text, {"table": BOTH, "lots": [[0]]}, wrong)

    def test_words(self):
        wrongs(self, word_text, {"letters": 2, "word": "ab"}, {"letters": WRONG_LETTERS, "word": WRONG_WORDS})


if __name__ == "__main__":
    unittest.main()
