"""[41], [42], [43] patterns, what they make, of words and of classes."""

import unittest

from by_hand import X, Y, Z, chance_pattern, either, made_by_hand, row, star, word
from helpers import JUNK, all_words, chance_machine, stopped, wrongs
from test_machines import EVEN
from test_makings import wheel
from test_middles import WRONG_FILLINGS
from test_tables import BOTH, TABLES, WRONG_TABLES
from test_words import WRONG_LETTERS
from widefills.errors import InvalidFilling, InvalidLetters, InvalidPattern, TooMany
from widefills.lots import lot_machine, widened
from widefills.machines import Machine, words_of
from widefills.makings import of_words
from widefills.patterns import is_pattern, made, made_lot, names_of
from widefills.tables import Table, class_of

# Of two letters.
NO_PATTERNS = (
    0, "", "a", "word", "name", [], (), ("word",), ("name",), ("behind",), ("either",), ("round",), ["word", "a"],
    ["name", 0], ["behind", X, Y], ["either", X, Y], ["round", X], ("word", "a", "b"), ("name", 0, 1), ("round", X, Y),
    ("behind", X), ("either", X), ("behind", X, Y, Z), ("either", X, Y, Z), ("word", 0), ("word", None), ("word", b"a"),
    ("word", ["a"]), ("word", ("a",)), ("word", "c"), ("word", "ac"), ("word", "A"), ("word", "a" * 61), ("name", 3),
    ("name", -1), ("name", True), ("name", False), ("name", None), ("name", "0"), ("name", "X"), ("name", [0]),
    ("name", 10 ** 30), ("names", 0), ("Word", "a"), ("rounds", X), ("joined", X, Y), ("", X), (0, X), (None, X),
    (True, X), (["round"], X), (("round",), X), (b"round", X), (EVEN, X), ("round", None), ("round", "a"), ("round", []),
    ("round", ["name", 0]), ("round", [X]), ("round", ("name", True)), ("behind", X, None), ("behind", None, X),
    ("behind", X, ["word", "a"]), ("behind", ["word", "a"], X), ("either", X, ("word", "c")), ("either", ("name", 3), X),
    ("behind", (X, Y)), (X, "behind", Y), ("behind", X, X, "a"), ("round", ("round", ("round", ("name", 3)))), X + X)
WRONG_PATTERNS = (InvalidPattern, JUNK + NO_PATTERNS)
WRONG_MACHINE_FILLINGS = (InvalidFilling, JUNK + (
    0, "", "a", [], (), EVEN, [None], [EVEN, None], [EVEN, 0], [EVEN] * 4, (EVEN,) * 4, [[EVEN]], [[0]], [Machine],
    [of_words(1, [])], [EVEN, of_words(3, [""])], {"a": EVEN}, {0: EVEN}, [[0], [1]]))


def deep(many):
    """A pattern that is so many deep."""
    return word("") if many == 1 else star(deep(many - 1))


def balanced(many):
    """A pattern with so many parts, that is not deep."""
    if many <= 2:
        return X if many == 1 else star(X)
    near = (many - 1) // 2
    return ("either", balanced(near), balanced(many - 1 - near))


class IsPattern(unittest.TestCase):

    def test_each_kind(self):
        for value in (word(""), word("a"), word("ab" * 30), X, Y, Z, ("behind", X, word("b")), ("either", Y, X), star(Z),
                      star(star(star(word("")))), row(X, Y, X), either(X, X, X), ("behind", star(X), ("either", X, Y))):
            self.assertIs(is_pattern(2, value), True, value)
            self.assertIs(is_pattern(value=value, letters=3), True)
        for seed in range(60):
            self.assertIs(is_pattern(2, chance_pattern(seed, 2, 3, 1 + seed % 30)), True)

    def test_no_patterns(self):
        for value in JUNK + NO_PATTERNS:
            self.assertIs(is_pattern(2, value), False, value)

    def test_letters(self):
        for letters in (1, 2, 3):
            for sign in "abcd":
                self.assertIs(is_pattern(letters, ("behind", X, word(sign))), sign in "abc"[:letters])
        self.assertIs(is_pattern(1, X), True)

    def test_a_part_left_out_put_in_exchanged(self):
        right = ("either", ("behind", word("a"), X), star(Y))
        self.assertIs(is_pattern(2, right), True)
        for at in range(3):
            self.assertIs(is_pattern(2, right[:at] + right[at + 1:]), False)
            self.assertIs(is_pattern(2, right[:at] + (X,) + right[at:]), False)
            self.assertIs(is_pattern(2, right[:at] + (7,) + right[at + 1:]), False)
            self.assertIs(is_pattern(2, right[:at] + (list(X),) + right[at + 1:]), False)
        self.assertIs(is_pattern(2, list(right)), False)
        self.assertIs(is_pattern(2, right[:1] + right[:0:-1]), True)

    def test_depth(self):
        for many in range(1, 13):
            self.assertIs(is_pattern(1, deep(many)), many <= 9)
            if many > 1:
                self.assertIs(is_pattern(1, ("behind", X, deep(many - 1))), many <= 9)
                self.assertIs(is_pattern(1, ("either", deep(many - 1), X)), many <= 9)
        self.assertIs(is_pattern(1, row(*[X] * 9)), True)
        self.assertIs(is_pattern(1, row(*[X] * 10)), False)

    def test_parts(self):
        for many in range(1, 40):
            self.assertIs(is_pattern(1, balanced(many)), many <= 30, many)
        signs = either(*[word("a")] * 8)
        self.assertIs(is_pattern(1, ("behind", signs, ("behind", signs[1], signs[2][2]))), True)
        self.assertIs(is_pattern(1, ("behind", signs, signs)), False)
        twice = balanced(15)
        # The same object stands there twice: its parts are counted twice.
        self.assertIs(is_pattern(1, ("behind", twice, balanced(14))), True)
        self.assertIs(is_pattern(1, ("behind", twice, twice)), False)
        self.assertIs(is_pattern(1, star(("behind", balanced(14), balanced(14)))), True)
        self.assertIs(is_pattern(1, star(("behind", twice, balanced(14)))), False)


class Names(unittest.TestCase):

    def test_names(self):
        self.assertEqual(names_of(2, ("either", Z, star(("behind", X, Z)))), [0, 2])
        self.assertEqual(names_of(pattern=word("ab"), letters=2), [])
        self.assertEqual(names_of(1, row(Z, Y, X, Y)), [0, 1, 2])
        self.assertEqual(names_of(1, star(star(Y))), [1])

    def test_by_chance(self):
        for seed in range(80):
            pattern = chance_pattern(seed, 2, 3, 1 + seed % 9)
            wanted = [name for name in range(3) if f"('name', {name})" in str(pattern)]
            self.assertEqual(names_of(2, pattern), wanted)

    def test_new(self):
        names_of(2, X).append(9)
        self.assertEqual(names_of(2, X), [0])


class Made(unittest.TestCase):

    def test_words_put_together_by_hand(self):
        for seed in range(150):
            letters = 1 + seed % 3
            length = {1: 9, 2: 5, 3: 4}[letters]
            pattern = chance_pattern(seed, letters, 3, 1 + seed % 9)
            filling = [chance_machine(seed * 3 + name, letters, 1 + (seed + name) % 3) for name in range(3)]
            wanted = made_by_hand(pattern, [words_of(one, min(length, 6)) for one in filling], length)
            if letters == 1:
                length = min(length, 6)
            try:
                machine = made(letters, pattern, filling)
            except TooMany:
                continue
            self.assertEqual(machine.letters, letters)
            self.assertEqual(words_of(machine, length), [one for one in all_words(letters, length) if one in wanted])

    def test_each_time_any_word(self):
        """A name that comes twice stands for two words, perhaps unlike ones."""
        self.assertEqual(made(2, row(X, X), [of_words(2, ["a", "b"])]), of_words(2, ["aa", "ab", "ba", "bb"]))
        self.assertEqual(made(2, row(X, Y, X), [of_words(2, ["a"]), of_words(2, ["b"])]), of_words(2, ["aba"]))

    def test_kinds(self):
        ab = [of_words(2, ["a"]), of_words(2, ["b", "ab"]), of_words(2, [])]
        self.assertEqual(made(2, word("abba"), ab), of_words(2, ["abba"]))
        self.assertEqual(made(2, word(""), ab), of_words(2, [""]))
        self.assertEqual(made(2, Y, ab), ab[1])
        self.assertEqual(made(2, ("behind", X, Y), ab), of_words(2, ["ab", "aab"]))
        self.assertEqual(made(2, ("behind", Y, X), ab), of_words(2, ["ba", "aba"]))
        self.assertEqual(made(2, ("either", X, Y), ab), of_words(2, ["a", "b", "ab"]))
        self.assertEqual(words_of(made(2, star(X), ab), 3), ["", "a", "aa", "aaa"])
        self.assertEqual(made(2, star(Z), ab), of_words(2, [""]))
        self.assertEqual(made(2, ("behind", X, Z), ab), of_words(2, []))
        self.assertEqual(made(filling=tuple(ab), pattern=("either", X, Z), letters=2), ab[0])

    def test_what_was_passed(self):
        filling = [EVEN, EVEN]
        made(2, row(X, X), filling)
        self.assertEqual(filling, [EVEN, EVEN])
        self.assertEqual(EVEN.steps(), [[1, 0], [0, 1]])

    def test_too_many_states(self):
        seven, eight, nine = wheel(7), wheel(8), wheel(9)
        self.assertEqual(made(1, ("either", X, Y), [seven, eight]).states, 56)
        self.assertEqual(made(1, word("a" * 58), [seven]).states, 60)
        for pattern in (("either", X, Y), star(word("a" * 59)), word("a" * 59), word("a" * 60),
                        # Each inner part is made, also where nothing of it is left in the end.
                        row(word("a" * 59), Z), row(Z, ("either", X, Y)), either(star(word("a")), word("a" * 59)),
                        star(either(word("a"), word("a" * 60)))):
            error = stopped(self, TooMany, made, 1, pattern, [seven, nine, of_words(1, [])])
            self.assertEqual((error.what, error.limit), ("states", 60))
        self.assertEqual(made(1, star(either(word("a"), X)), [seven]), Machine(1, [[0]], [0]))


class MadeLot(unittest.TestCase):

    def test_classes_of_words_by_hand(self):
        for seed, table in enumerate(TABLES):
            if table.classes > 6:
                continue
            pattern = chance_pattern(seed, table.letters, 3, 1 + seed % 8)
            lots = [[one for one in range(table.classes) if (seed * 7 + name + one * one) % 3] for name in range(3)]
            length = 5 if table.letters < 3 else 3
            by_class = [[one for one in all_words(table.letters, length) if class_of(table, one) in lot] for lot in lots]
            told = made_lot(table, pattern, lots)
            found = {class_of(table, one) for one in made_by_hand(pattern, by_class, length)}
            self.assertTrue(found <= set(told))
            try:
                machine = made(table.letters, pattern, [lot_machine(table, lot) for lot in lots])
            except TooMany:
                continue
            self.assertEqual(told, widened(table, machine))

    def test_kinds(self):
        self.assertEqual(made_lot(BOTH, word("aab"), [[]]), [2])
        self.assertEqual(made_lot(BOTH, word(""), [[]]), [0])
        self.assertEqual(made_lot(BOTH, word("ab" * 30), [[]]), [class_of(BOTH, "ab" * 30)])
        self.assertEqual(made_lot(BOTH, X, [(4, 1)]), [1, 4])
        self.assertEqual(made_lot(BOTH, ("behind", X, Y), [[1], [2]]), [4])
        self.assertEqual(made_lot(BOTH, ("behind", Y, X), [[1], [2]]), [1])
        self.assertEqual(made_lot(BOTH, ("either", Y, X), [[3, 1], [2, 1]]), [1, 2, 3])
        self.assertEqual(made_lot(BOTH, star(X), [[1]]), [0, 1, 3])
        self.assertEqual(made_lot(BOTH, row(X, X), [[1]]), [3])
        self.assertEqual(made_lot(lots=((1,),), pattern=row(X, X, X), table=BOTH), [1])

    def test_nothing(self):
        self.assertEqual(made_lot(BOTH, star(X), [[]]), [0])
        self.assertEqual(made_lot(BOTH, row(X, Y), [[], [0, 1, 2, 3, 4]]), [])
        self.assertEqual(made_lot(BOTH, either(X, Y), [[], [4]]), [4])
        self.assertEqual(made_lot(BOTH, Y, [[0], [1], []]), [1])

    def test_no_bound_on_states(self):
        """Classes alone are needed, whatever the machines would be."""
        table = Table([Machine(1, [[0]], [0])])
        self.assertEqual(made_lot(table, word("a" * 60), [[0]]), [0])
        self.assertEqual(made_lot(BOTH, star(word("ab" * 30)), [[0]]), [0, 2])

    def test_new(self):
        lots = [[3, 1]]
        for pattern in (X, star(X), either(X, X), row(X, X), word("a")):
            wanted = made_lot(BOTH, pattern, lots)
            self.assertEqual(wanted, sorted(wanted))
            made_lot(BOTH, pattern, lots).append(9)
            self.assertEqual(made_lot(BOTH, pattern, lots), wanted)
        self.assertEqual(lots, [[3, 1]])
        self.assertIs(type(made_lot(BOTH, X, ((1, 3),))), list)


class Wrong(unittest.TestCase):

    def test_all(self):
        wrong = {"letters": WRONG_LETTERS, "pattern": WRONG_PATTERNS, "filling": WRONG_MACHINE_FILLINGS,
                 "table": WRONG_TABLES, "lots": WRONG_FILLINGS}
        wrongs(self, is_pattern, {"letters": 2, "value": X}, wrong)
        wrongs(self, names_of, {"letters": 2, "pattern": X}, wrong)
        wrongs(self, made, {"letters": 2, "pattern": X, "filling": [EVEN]}, wrong)
        wrongs(self, made_lot, {"table": BOTH, "pattern": X, "lots": [[1]]}, wrong)

    def test_names_that_are_not_reached(self):
        for pattern, many in ((Y, 2), (Z, 3), (row(X, Z), 3), (star(either(word("a"), Y)), 2)):
            for less in range(1, many):
                for filling in ([EVEN] * less, (EVEN,) * less):
                    self.assertIs(stopped(self, InvalidFilling, made, 2, pattern, filling).value, filling)
                for lots in ([[0]] * less, ((),) * less):
                    self.assertIs(stopped(self, InvalidFilling, made_lot, BOTH, pattern, lots).value, lots)
            made(2, pattern, [EVEN] * many)
            made_lot(BOTH, pattern, [[0]] * many)

    def test_patterns_without_names(self):
        for filling in ([], (), [EVEN] * 4):
            self.assertIs(stopped(self, InvalidFilling, made, 2, word("a"), filling).value, filling)
        for lots in ([], (), [[0]] * 4):
            self.assertIs(stopped(self, InvalidFilling, made_lot, BOTH, word("a"), lots).value, lots)

    def test_too_many_last(self):
        stopped(self, InvalidFilling, made, 1, ("behind", word("a" * 60), Z), [wheel(2)])
        stopped(self, InvalidFilling, made, 1, word("a" * 60), [EVEN])
        stopped(self, InvalidPattern, made, 1, word("a" * 61), [EVEN])
        stopped(self, InvalidLetters, made, 0, word("a" * 61), [EVEN])

    def test_letters_of_the_table(self):
        one = Table([of_words(1, ["a"])])
        stopped(self, InvalidPattern, made_lot, one, word("b"), [[0]])
        stopped(self, InvalidFilling, made_lot, one, X, [[3]])


if __name__ == "__main__":
    unittest.main()
