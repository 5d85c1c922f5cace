"""[46] readings, [43] within and outside."""

import unittest
from itertools import product as all_of

from by_hand import X, Y, Z, chance_pattern, either, made_by_hand, row, star, word
from helpers import JUNK, all_words, stopped, wrongs
from test_machines import EVEN
from test_middles import EVENS, WRONG_FILLINGS
from test_patterns import WRONG_MACHINE_FILLINGS, WRONG_PATTERNS
from test_tables import BOTH, TABLES, TURNS, WRONG_POSITIONS, WRONG_TABLES
from test_words import WRONG_LETTERS
from widefills.errors import InvalidFilling, InvalidPattern, InvalidReading
from widefills.lots import lot_machine
from widefills.machines import Machine
from widefills.makings import of_words
from widefills.patterns import made_lot
from widefills.readings import is_outside, is_reading, outside, read_word, stays_within
from widefills.tables import Table, class_of, passed

NO_READINGS = (
    0, "", "a", "word", [], (), ("word",), ("name",), ("name", 0), ("behind",), ("either",), ("round",), ["word", "a"],
    ["name", 0, "a"], ("word", "a", "b"), ("name", 0, "a", "b"), ("word", "d"), ("word", "A"), ("word", 0), ("word", None),
    ("word", b"a"), ("word", ["a"]), ("word", "a" * 61), ("name", 3, "a"), ("name", -1, "a"), ("name", True, "a"),
    ("name", False, "a"), ("name", "0", "a"), ("name", "a", 0), ("name", 0, "a" * 61), ("name", 0, "d"), ("name", 0, None),
    ("name", 0, ["a"]), ("names", 0, "a"), ("Word", "a"), (0, "a"), (None, "a"), (b"word", "a"), (["word"], "a"),
    ("behind", ("word", "a")), ("behind", ("word", "a"), ["word", "a"]), ("behind", ["word", "a"], ("word", "a")),
    ("behind", ("word", "a"), ("word", "a"), ("word", "a")), ("behind", ("word", "a"), None), ("behind", 0, ("word", "a")),
    ("behind", [("word", "a"), ("word", "a")]), ("either", ("word", "a")), ("either", 2, ("word", "a")),
    ("either", -1, ("word", "a")), ("either", True, ("word", "a")), ("either", False, ("word", "a")),
    ("either", "0", ("word", "a")), ("either", 0, ["word", "a"]), ("either", 0, None), ("either", ("word", "a"), 0),
    ("either", 0, ("word", "a"), ("word", "a")), ("round", ("word", "a")), ("round", None), ("round", "a"), ("round", {}),
    ("round", {("word", "a")}), ("round", [["word", "a"]]), ("round", [("word", "a"), 0]), ("round", [("name", 0)]),
    ("round", [], []), ("round", 0, []), ("word", "a", []), ("round", [("word", "a"), ("word", "d")]),
    ("both", ("word", "a"), ("word", "a")), ("", ("word", "a"), ("word", "a")), (0, ("word", "a"), ("word", "a")),
    ("word", ("word", "a"), ("word", "a")), ("round", ("word", "a"), ("word", "a")))
WRONG_READINGS = (InvalidReading, JUNK + NO_READINGS)


def read_by_hand(reading):
    """The word that the reading reads."""
    kind, *told = reading
    if kind in ("word", "name", "either"):
        return told[-1] if kind != "either" else read_by_hand(told[1])
    return "".join(map(read_by_hand, told if kind == "behind" else told[0]))


def pieces(reading):
    """The names of a reading with their pieces."""
    kind, *told = reading
    if kind in ("word", "name"):
        return [tuple(told)] if kind == "name" else []
    inner = {"behind": told, "either": told[1:], "round": told[0]}[kind]
    return [piece for part in inner for piece in pieces(part)]


def readings_by_hand(pattern, filling, length, rounds):
    """All readings of words of at most this length, by so many rounds at most; filling tells words."""
    kind = pattern[0]
    if kind == "word":
        found = [pattern]
    elif kind == "name":
        found = [("name", pattern[1], piece) for piece in filling[pattern[1]]]
    elif kind == "round":
        part = readings_by_hand(pattern[1], filling, length, rounds)
        found = [("round", list(told)) for many in range(rounds + 1) for told in all_of(part, repeat=many)]
    else:
        near, far = [readings_by_hand(part, filling, length, rounds) for part in pattern[1:]]
        if kind == "behind":
            found = [("behind", one, other) for one in near for other in far]
        else:
            found = [("either", 0, one) for one in near] + [("either", 1, one) for one in far]
    return [reading for reading in found if len(read_by_hand(reading)) <= length]


def changed(reading):
    """Other values: the reading with one thing changed, left out, put in."""
    found = [list(reading), reading[:-1], reading + (0,), reading + ("a",), (), reading[::-1], (reading,)]
    for kind in ("word", "name", "behind", "either", "round"):
        if kind != reading[0]:
            found.append((kind, *reading[1:]))
    for at, part in enumerate(reading[1:], 1):
        inner = []
        if isinstance(part, tuple):
            inner = changed(part)
        elif isinstance(part, list):
            inner = [part[:k] + [other] + part[k + 1:] for k, one in enumerate(part) for other in changed(one)]
        elif isinstance(part, str):
            inner = [part + "a", part + "b", None, [part]]
        else:
            inner = [part + 1, part - 1, bool(part), str(part), None]
        found += [reading[:at] + (other,) + reading[at + 1:] for other in inner]
    return found


def deep(many):
    """A reading that is so many deep."""
    return ("word", "a") if many == 1 else ("either", 0, deep(many - 1))


class Read(unittest.TestCase):

    def test_each_kind(self):
        one, other = ("word", "ab"), ("name", 2, "c")
        self.assertEqual([read_word(reading) for reading in (
            one, other, ("behind", one, other), ("behind", other, one), ("either", 0, one), ("either", 1, other),
            ("round", []), ("round", ()), ("round", [one]), ("round", (one, other, one)), ("word", ""), ("name", 0, ""))],
            ["ab", "c", "abc", "cab", "ab", "c", "", "", "ab", "abcab", "", ""])
        self.assertEqual(read_word(reading=("round", [("round", [one, one]), ("either", 1, other)])), "ababc")

    def test_whatever_length(self):
        long = ("word", "abc" * 20)
        self.assertEqual(read_word(("round", [long] * 150)), "abc" * 3000)
        self.assertEqual(read_word(("behind", long, ("name", 0, "c"))), "abc" * 20 + "c")

    def test_no_readings(self):
        for value in JUNK + NO_READINGS:
            self.assertIs(stopped(self, InvalidReading, read_word, value).value, value)

    def test_depth(self):
        self.assertEqual(read_word(deep(9)), "a")
        for many in (10, 11, 12):
            stopped(self, InvalidReading, read_word, deep(many))
        for value, right in ((("behind", deep(8), deep(8)), True), (("behind", deep(9), deep(1)), False),
                             (("behind", deep(1), deep(9)), False), (("round", [deep(8)]), True),
                             (("round", [deep(1), deep(9)]), False)):
            if right:
                read_word(value)
            else:
                stopped(self, InvalidReading, read_word, value)

    def test_round_of_none_is_one_deep(self):
        """It has no inner readings: it is as deep as a word."""
        value = ("round", [])
        for _ in range(8):
            value = ("either", 1, value)
        self.assertEqual(read_word(value), "")
        stopped(self, InvalidReading, read_word, ("either", 1, value))


class IsReading(unittest.TestCase):

    def test_by_hand(self):
        """With all words of the fillings as pieces, readings read just the words that are made."""
        for seed in range(60):
            pattern = chance_pattern(seed, 2, 3, 1 + seed % 6)
            words = [["", "a"], ["b"], ["ab", "b"]]
            machines = [of_words(2, some) for some in words]
            readings = readings_by_hand(pattern, words, 4, 3)[:60]
            for reading in readings:
                self.assertIs(is_reading(2, pattern, machines, reading), True)
                self.assertEqual(read_word(reading), read_by_hand(reading))
            every = readings_by_hand(pattern, [["a"], ["b"], ["b", "aa"]], 3, 3)
            self.assertEqual({read_by_hand(one) for one in every},
                             made_by_hand(pattern, [["a"], ["b"], ["b", "aa"]], 3))

    def test_other_values(self):
        """What differs from all readings of the pattern is none."""
        words = [["a"], ["b", "ba"], [""]]
        machines = [of_words(2, some) for some in words]
        for pattern in (word("ab"), X, row(X, Y), either(X, word("b")), star(Y), star(either(row(X, Y), star(Z))),
                        row(star(X), word("a"))):
            every = readings_by_hand(pattern, words, 9, 2)
            for reading in every[:40]:
                for value in changed(reading):
                    told = is_reading(2, pattern, machines, value)
                    self.assertIs(told, any(alike(value, one) for one in every), (pattern, value))

    def test_pieces(self):
        machines = [EVEN, of_words(2, ["b"])]
        for piece, right in (("", True), ("aa", True), ("b", True), ("a", False), ("c", False), ("ab" * 30, True),
                             ("b" * 61, False), ("b" * 60, True), (None, False), (["b"], False), (b"b", False), (0, False)):
            self.assertIs(is_reading(2, X, machines, ("name", 0, piece)), right, piece)
        self.assertIs(is_reading(2, Y, machines, ("name", 0, "b")), False)
        self.assertIs(is_reading(2, X, machines, ("name", 1, "b")), False)
        self.assertIs(is_reading(2, Y, machines, ("name", True, "b")), False)
        self.assertIs(is_reading(2, X, machines, ("name", False, "b")), False)
        self.assertIs(is_reading(1, X, [of_words(1, ["a"])], ("name", 0, "b")), False)
        self.assertIs(is_reading(value=("name", 1, "b"), filling=tuple(machines), pattern=Y, letters=2), True)

    def test_each_piece_for_itself(self):
        machines = [of_words(2, ["a", "b"])]
        self.assertIs(is_reading(2, row(X, X), machines, ("behind", ("name", 0, "a"), ("name", 0, "b"))), True)
        self.assertIs(is_reading(2, star(X), machines, ("round", (("name", 0, "a"), ("name", 0, "b")))), True)

    def test_rounds(self):
        machines = [of_words(2, ["a"])]
        for many in (0, 1, 2, 150):
            for kind in (list, tuple):
                self.assertIs(is_reading(2, star(X), machines, ("round", kind([("name", 0, "a")] * many))), True)
        self.assertIs(is_reading(2, star(X), [of_words(2, [])], ("round", [])), True)
        self.assertIs(is_reading(2, star(X), machines, ("round", [("name", 0, "a"), ("word", "a")])), False)
        self.assertIs(is_reading(2, star(star(X)), machines, ("round", [("round", []), ("round", ())])), True)
        self.assertIs(is_reading(2, star(star(X)), machines, ("round", [("name", 0, "a")])), False)

    def test_either_side(self):
        machines = [of_words(2, ["a"])]
        both = either(X, word("b"))
        for value, right in ((("either", 0, ("name", 0, "a")), True), (("either", 1, ("word", "b")), True),
                             (("either", 1, ("name", 0, "a")), False), (("either", 0, ("word", "b")), False),
                             (("either", True, ("word", "b")), False), (("either", False, ("name", 0, "a")), False),
                             (("either", 2, ("word", "b")), False), (("either", -1, ("word", "b")), False)):
            self.assertIs(is_reading(2, both, machines, value), right, value)

    def test_deep(self):
        pattern = X
        for _ in range(8):
            pattern = ("either", word("b"), pattern)
        value = ("name", 0, "a")
        for _ in range(8):
            value = ("either", 1, value)
        self.assertIs(is_reading(2, pattern, [of_words(2, ["a"])], value), True)
        self.assertIs(is_reading(2, pattern, [of_words(2, ["a"])], ("either", 1, value)), False)

    def test_any_value(self):
        for pattern in (X, word("a"), row(X, Y), either(X, Y), star(X), star(row(X, Y))):
            for value in JUNK + NO_READINGS + (pattern,):
                wanted = value == ("word", "a") and pattern == word("a")
                self.assertIs(is_reading(2, pattern, [EVEN, EVEN], value), wanted, value)


def alike(value, reading):
    """Whether both are the same, lists and tuples of rounds alike, but no bools for numbers."""
    if isinstance(reading, list):
        return isinstance(value, (list, tuple)) and len(value) == len(reading) and all(map(alike, value, reading))
    if isinstance(reading, tuple):
        return isinstance(value, tuple) and len(value) == len(reading) and all(map(alike, value, reading))
    return type(value) is type(reading) and value == reading


class Within(unittest.TestCase):

    def cases(self):
        for seed, table in enumerate(TABLES[::2]):
            if table.classes < 10:
                pattern = chance_pattern(seed, table.letters, 3, 1 + seed % 9)
                lots = [[one for one in range(table.classes) if (seed * 7 + name + one * one) % 3] for name in range(3)]
                for position in range(len(table.machines())):
                    yield table, position, pattern, lots

    def test_stays_within(self):
        found = []
        for table, position, pattern, lots in self.cases():
            told = stays_within(table, position, pattern, lots)
            found.append(told)
            self.assertIs(told, set(made_lot(table, pattern, lots)) <= set(passed(table, position)))
            length = 4 if table.letters < 3 else 3
            by_class = [[one for one in all_words(table.letters, length) if class_of(table, one) in lot] for lot in lots]
            let = passed(table, position)
            if told:
                for one in made_by_hand(pattern, by_class, length):
                    self.assertIn(class_of(table, one), let)
        self.assertEqual(set(found), {True, False})

    def test_outside(self):
        for table, position, pattern, lots in self.cases():
            told = outside(table, position, pattern, lots)
            if stays_within(table, position, pattern, lots):
                self.assertIsNone(told)
                continue
            self.assertIs(is_outside(table, position, pattern, lots, told), True)
            self.assertNotIn(class_by_steps(table, read_word(told)), passed(table, position))
            words = table.words()
            for name, piece in pieces(told):
                self.assertIn(piece, [words[one] for one in lots[name]])
            self.assertEqual(outside(table, position, pattern, lots), told)

    def test_far_words(self):
        """All 24 classes are needed, round after round."""
        table = Table([TURNS])
        for one in range(24):
            less = Table([lot_machine(table, [other for other in range(24) if other != one])])
            lots = [[class_of(less, "a"), class_of(less, "b")]]
            told = outside(less, 0, star(X), lots)
            self.assertIs(is_outside(less, 0, star(X), lots, told), True)
            self.assertLess(len(told[1]), 24)
            self.assertEqual(class_by_steps(table, read_word(told)), one)
        wheel = Table([Machine(1, [[(state + 1) % 12] for state in range(12)], list(range(11)))])
        told = outside(wheel, 0, star(star(X)), [[1]])
        self.assertEqual(read_word(told), "a" * 11)
        self.assertEqual(read_word(outside(wheel, 0, star(row(X, star(X))), [[5]])), "a" * 35)

    def test_is_outside_pieces(self):
        """A piece may be any word of its classes; what is read must leave."""
        two = row(X, X)
        for near, far, right in (("ab", "b", True), ("ab", "a", False), ("a", "a", False), ("", "a", True),
                                 ("c", "a", False), ("a" * 60, "a", True), ("a" * 61, "", False)):
            self.assertIs(is_outside(EVENS, 0, two, [[0, 1]], ("behind", ("name", 0, near), ("name", 0, far))), right)
            self.assertIs(is_outside(EVENS, 0, two, [[0]], ("behind", ("name", 0, near), ("name", 0, far))), False)
        value = ("behind", ("name", 0, "ab"), ("name", 1, "b"))
        self.assertIs(is_outside(EVENS, 0, row(X, Y), [[1], [0]], value), True)
        self.assertIs(is_outside(EVENS, 0, row(X, Y), [[0], [1]], value), False)
        self.assertIs(is_outside(value=value, lots=((1,), (0,)), pattern=row(X, Y), position=0, table=EVENS), True)

    def test_is_outside_kinds(self):
        pattern = either(word("b"), star(row(word("a"), X)))
        inner = ("behind", ("word", "a"), ("name", 0, "b"))
        for value, right in ((("either", 0, ("word", "b")), False), (("either", 1, ("round", [])), False),
                             (("either", 1, ("round", [inner])), True), (("either", 1, ("round", (inner,) * 2)), False),
                             (("either", 1, ("round", (inner,) * 3)), True), (("either", True, ("round", [inner])), False),
                             (("either", 1, ["round", [inner]]), False), (("round", [inner]), False),
                             (["either", 1, ("round", [inner])], False)):
            self.assertIs(is_outside(EVENS, 0, pattern, [[0]], value), right, value)

    def test_long_words_are_read(self):
        value = ("round", [("name", 0, "a" * 59)] * 151)
        self.assertIs(is_outside(EVENS, 0, star(X), [[1]], value), True)
        self.assertIs(is_outside(EVENS, 0, star(X), [[1]], ("round", value[1][1:])), False)

    def test_any_value(self):
        for pattern in (X, row(X, Y), either(X, Y), star(X)):
            for value in JUNK + NO_READINGS + (pattern,):
                self.assertIs(is_outside(EVENS, 0, pattern, [[0, 1], [0, 1]], value), False, value)
        told = outside(EVENS, 0, star(row(X, Y)), [[0, 1], [0]])
        self.assertIs(is_outside(EVENS, 0, star(row(X, Y)), [[0, 1], [0]], list(told)), False)

    def test_names_without_classes(self):
        self.assertIsNone(outside(EVENS, 0, row(X, Y), [[], [0, 1]]))
        self.assertIs(stays_within(EVENS, 0, row(X, Y), [[], [0, 1]]), True)
        odd = Table([Machine(2, [[1, 0], [0, 1]], [1])])
        self.assertEqual(outside(odd, 0, star(X), [[]]), ("round", []))
        self.assertIs(is_outside(odd, 0, star(X), [[]], ("round", ())), True)
        self.assertIs(stays_within(odd, 0, star(X), [[]]), False)

    def test_new(self):
        odd, pattern = Table([Machine(2, [[1, 0], [0, 1]], [1])]), row(star(X), star(X))
        wanted = outside(odd, 0, pattern, [[]])
        self.assertEqual(wanted, ("behind", ("round", []), ("round", [])))
        self.assertIsNot(wanted[1][1], wanted[2][1])
        outside(odd, 0, pattern, [[]])[1][1].append(9)
        self.assertEqual(outside(odd, 0, pattern, [[]]), wanted)
        lots = [[1, 0]]
        outside(EVENS, 0, row(X, X), lots)
        self.assertEqual(lots, [[1, 0]])


def class_by_steps(table, signs):
    """The class of a word of whatever length."""
    found = 0
    for sign in signs:
        found = class_of(table, table.words()[found] + sign)
    return found


class Wrong(unittest.TestCase):

    def test_all(self):
        wrong = {"letters": WRONG_LETTERS, "pattern": WRONG_PATTERNS, "filling": WRONG_MACHINE_FILLINGS,
                 "table": WRONG_TABLES, "position": WRONG_POSITIONS, "lots": WRONG_FILLINGS, "reading": WRONG_READINGS}
        wrongs(self, read_word, {"reading": X + ("",)}, wrong)
        wrongs(self, is_reading, {"letters": 2, "pattern": X, "filling": [EVEN], "value": X}, wrong)
        right = {"table": BOTH, "position": 1, "pattern": X, "lots": [[1]]}
        wrongs(self, stays_within, right, wrong)
        wrongs(self, outside, right, wrong)
        wrongs(self, is_outside, {**right, "value": X}, wrong)

    def test_names_that_are_not_reached(self):
        for filling in ([EVEN], (EVEN,)):
            self.assertIs(stopped(self, InvalidFilling, is_reading, 2, row(X, Y), filling, None).value, filling)
        for lots in ([[0]], ((0,), [])):
            for function, further in ((stays_within, ()), (outside, ()), (is_outside, (None,))):
                self.assertIs(stopped(self, InvalidFilling, function, BOTH, 0, Z, lots, *further).value, lots)

    def test_letters_of_the_table(self):
        one = Table([of_words(1, ["a"])])
        for function, further in ((stays_within, ()), (outside, ()), (is_outside, (None,))):
            stopped(self, InvalidPattern, function, one, 0, word("b"), [[0]], *further)
        self.assertIs(is_outside(one, 0, X, [[0, 1, 2]], ("name", 0, "b")), False)


if __name__ == "__main__":
    unittest.main()
