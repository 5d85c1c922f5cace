"""[64], [65] rounds, roots, power lots."""

import unittest
from itertools import product as all_of

from by_hand import X, made_by_hand, row
from helpers import chain, chance_machine, stopped, wrongs
from test_greatest import group
from test_machines import EVEN, WRONG_MACHINES
from test_makings import wheel
from test_middles import EVENS, WRONG_MANY
from test_pairs import SMALL, lots_of
from test_tables import BOTH, LAST, WRONG_POSITIONS, WRONG_TABLES
from widefills.errors import InvalidMachine, TooMany, UnlikeLetters
from widefills.greatest import greatest
from widefills.machines import Machine, lets, words_of
from widefills.makings import behind, is_within, joined, met, of_words, rounds, without
from widefills.roots import is_root, is_round, power_lots, root
from widefills.tables import Table, class_of, passed

NOTHING, EMPTY_WORD, EVERYTHING = of_words(2, []), of_words(2, [""]), Machine(2, [[0, 0]], [0])


def machines():
    """Machines by chance, many of them rounds."""
    found = [EVEN, LAST, NOTHING, EMPTY_WORD, EVERYTHING]
    for seed in range(60):
        letters = 1 + seed % 3
        machine = chance_machine(seed, letters, 1 + seed % 4)
        found.append(machine)
        try:
            found.append(rounds(machine))
        except TooMany:
            continue
        found.append(joined(machine, of_words(letters, [""])))
    return found


ALL = machines()


def words_in_rounds(words, length):
    """All words of at most this length that are these one behind another."""
    return made_by_hand(("round", X), [words], length)


class Rounds(unittest.TestCase):

    def test_is_round(self):
        seen = []
        for machine in ALL:
            told = is_round(machine)
            seen.append(told)
            self.assertIs(told, rounds(machine) == machine)
        self.assertGreater(seen.count(True), 40)
        self.assertGreater(seen.count(False), 40)

    def test_words(self):
        for words, right in (([], False), ([""], True), (["a"], False), (["", "a"], False), (["b", ""], False)):
            self.assertIs(is_round(of_words(2, words)), right)
        self.assertIs(is_round(machine=EVEN), True)
        self.assertIs(is_round(Machine(2, [[1, 0], [0, 1]], [1])), False)
        self.assertIs(is_round(wheel(12)), True)
        self.assertIs(is_round(wheel(12, 0, 6)), True)
        self.assertIs(is_round(wheel(12, 0, 5)), False)
        # The lot behind itself lies within it, but the empty word is not let.
        self.assertIs(is_round(without(EVERYTHING, EMPTY_WORD)), False)
        self.assertIs(is_within(behind(LAST, LAST), LAST), True)
        self.assertIs(is_round(LAST), False)


class Roots(unittest.TestCase):

    def test_no_round(self):
        for machine in ALL:
            self.assertIs(root(machine) is None, not is_round(machine))

    def test_by_hand(self):
        """All words but the empty one that are not two of the words, neither empty."""
        for machine in ALL:
            if not is_round(machine):
                continue
            length = {1: 6, 2: 5, 3: 4}[machine.letters]
            words = [one for one in words_of(machine, length) if one]
            wanted = [one for one in words
                      if not any(one[:at] in words and one[at:] in words for at in range(1, len(one)))]
            told = root(machine)
            self.assertEqual(words_of(told, length), wanted)
            self.assertEqual(rounds(told), machine)
            self.assertIs(is_root(machine, told), True)

    def test_least(self):
        """Without any one of its words the rounds are fewer."""
        for machine in ALL:
            if is_round(machine):
                told = root(machine)
                for one in words_of(told, 3):
                    less = without(told, of_words(machine.letters, [one]))
                    self.assertIs(is_root(machine, less), False)
                    self.assertIs(lets(rounds(less), one), False)

    def test_examples_by_words(self):
        """[66]"""
        self.assertEqual(words_of(root(EVEN), 4), ["b", "aa", "aba", "abba"])
        self.assertEqual(root(EMPTY_WORD), NOTHING)
        self.assertEqual(root(EVERYTHING), of_words(2, ["a", "b"]))
        self.assertEqual(root(machine=rounds(of_words(2, ["ab", "b"]))), of_words(2, ["ab", "b"]))
        self.assertEqual(root(rounds(of_words(1, ["a" * 5, "a" * 3, "a" * 8]))), of_words(1, ["a" * 3, "a" * 5]))
        self.assertIsNone(root(NOTHING))

    def test_is_root_between(self):
        """Each lot of words between the root and the whole has these rounds; others have not."""
        for machine in ALL:
            if not is_round(machine):
                continue
            least = root(machine)
            self.assertIs(is_root(machine, machine), True)
            for seed in range(4):
                between = joined(least, met(machine, chance_machine(seed, machine.letters, 2)))
                self.assertIs(is_root(machine, between), True)
                less = without(machine, of_words(machine.letters, words_of(least, 3)[:1]))
                self.assertIs(is_root(machine, less), less == machine)
            beyond = without(of_words(machine.letters, ["a"]), machine)
            if words_of(beyond, 1):
                self.assertIs(is_root(machine, joined(least, beyond)), False)

    def test_is_root_by_hand(self):
        words = ["", "a", "b", "ab", "bb", "aab"]
        for chosen in all_of([False, True], repeat=len(words)):
            some = [one for one, taken in zip(words, chosen) if taken]
            for whole in (rounds(of_words(2, ["ab", "b"])), rounds(of_words(2, ["a", "b"]))):
                wanted = words_in_rounds(some, 4) == set(words_of(whole, 4))
                self.assertIs(is_root(whole, of_words(2, some)), wanted)

    def test_no_round_has_roots(self):
        for machine in ALL:
            if not is_round(machine):
                self.assertIs(is_root(machine, machine), False)
        self.assertIs(is_root(of_words(2, ["a"]), of_words(2, ["a"])), False)
        self.assertIs(is_root(other=NOTHING, machine=EMPTY_WORD), True)
        self.assertIs(is_root(EMPTY_WORD, EMPTY_WORD), True)
        self.assertIs(is_root(NOTHING, NOTHING), False)


class Powers(unittest.TestCase):

    def test_all_lots(self):
        for table in [one for one in SMALL if one.classes < 6][::3] + [BOTH, EVENS]:
            for position in range(len(table.machines())):
                let = passed(table, position)
                for many in (1, 2, 3):
                    words = table.words()
                    right = [set(lot) for lot in lots_of(table)
                             if all(self.class_of(table, "".join(told)) in let
                                    for told in all_of([words[one] for one in lot], repeat=many))]
                    wanted = sorted(sorted(lot) for lot in right if not any(lot < other for other in right))
                    self.assertEqual(power_lots(table, position, many), wanted)

    def class_of(self, table, signs):
        found = 0
        for sign in signs:
            found = class_of(table, table.words()[found] + sign)
        return found

    def test_as_greatest(self):
        for many, pattern in ((1, X), (2, row(X, X)), (3, row(X, X, X))):
            self.assertEqual([[lot] for lot in power_lots(BOTH, 0, many)], greatest(BOTH, 1, [(pattern, 0)]))
        self.assertEqual(power_lots(many=2, position=0, table=EVENS), [[0], [1]])
        self.assertEqual([power_lots(BOTH, 1, many) for many in (1, 2)], [[[1, 3]], [[1, 3]]])

    def test_nothing_let(self):
        self.assertEqual([power_lots(Table([NOTHING]), 0, many) for many in (1, 2, 3)], [[[]]] * 3)

    def test_new(self):
        told = power_lots(EVENS, 0, 2)
        told[0].append(9)
        told.append([])
        self.assertEqual(power_lots(EVENS, 0, 2), [[0], [1]])

    def test_too_many(self):
        table = group(24)
        self.assertEqual(power_lots(table, 0, 1), [list(range(1, 24))])
        error = stopped(self, TooMany, power_lots, table, 0, 2)
        self.assertEqual((error.what, error.limit), ("fillings", 60))


class Bounds(unittest.TestCase):

    def test_states(self):
        """The lot behind itself, and the rounds, may have more states than a Machine."""
        far = of_words(1, ["", "a" * 40])
        for function, further in ((is_round, ()), (root, ())):
            error = stopped(self, TooMany, function, far, *further)
            self.assertEqual((error.what, error.limit), ("states", 60))
        near, far = rounds(of_words(1, ["a" * 29])), rounds(of_words(1, ["a" * 31]))
        self.assertEqual((is_round(near), is_round(far)), (True, True))
        self.assertEqual(root(near), of_words(1, ["a" * 29]))
        stopped(self, TooMany, root, far)
        some = of_words(1, ["a" * 7, "a" * 11])
        error = stopped(self, TooMany, is_root, Machine(1, [[0]], [0]), some)
        self.assertEqual((error.what, error.limit), ("states", 60))
        self.assertEqual(root(rounds(of_words(1, ["a" * 6, "a" * 11]))), of_words(1, ["a" * 6, "a" * 11]))

    def test_no_round_at_once(self):
        """Without the empty word nothing is put behind itself."""
        self.assertIs(is_round(of_words(1, ["a" * 40])), False)
        self.assertIsNone(root(of_words(1, ["a" * 40])))
        self.assertIs(is_round(chain(12)), False)


class Wrong(unittest.TestCase):

    def test_all(self):
        wrong = {"machine": WRONG_MACHINES, "other": WRONG_MACHINES, "table": WRONG_TABLES, "position": WRONG_POSITIONS,
                 "many": WRONG_MANY}
        wrongs(self, is_round, {"machine": EVEN}, wrong)
        wrongs(self, root, {"machine": EVEN}, wrong)
        wrongs(self, is_root, {"machine": EVEN, "other": EVEN}, wrong)
        wrongs(self, power_lots, {"table": BOTH, "position": 1, "many": 2}, wrong)

    def test_unlike_letters(self):
        for machine, other in ((EVEN, of_words(1, [])), (of_words(3, [""]), EVEN)):
            stopped(self, UnlikeLetters, is_root, machine, other)
        stopped(self, InvalidMachine, is_root, EVEN, None)
        stopped(self, UnlikeLetters, is_root, EVEN, of_words(1, ["a" * 58]))


if __name__ == "__main__":
    unittest.main()
