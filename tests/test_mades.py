"""[61], [62], [63], [66] machines whose lot is made by a pattern, and lost words."""

import unittest
from itertools import product as all_of
from random import Random

from by_hand import X, Y, Z, chance_pattern, either, made_by_hand, row, star, word
from helpers import JUNK, all_words, stopped, wrongs
from test_greatest import group
from test_machines import EVEN
from test_makings import wheel
from test_middles import EVENS, WRONG_FILLINGS
from test_pairs import SMALL, lots_of
from test_patterns import WRONG_PATTERNS
from test_tables import BOTH, LAST, WRONG_POSITIONS, WRONG_TABLES
from widefills.errors import InvalidFilling, InvalidPattern, InvalidPosition, TooMany
from widefills.greatest import greatest
from widefills.lots import lot_machine
from widefills.machines import Machine, lets, words_of
from widefills.mades import is_losses, is_made, is_making, losses, lost, making
from widefills.makings import is_within, of_words, parting, rounds
from widefills.patterns import made, names_of
from widefills.tables import Table, class_of

TWICE, AMID = row(X, X), row(X, word("a"), X)
ODD = Machine(2, [[1, 0], [0, 1]], [1])
ODDS = Table([ODD])


def filled(table, pattern):
    """How many names are filled."""
    return max([0, *names_of(table.letters, pattern)]) + 1


def machine_by_hand(table, pattern, lots):
    return made(table.letters, pattern, [lot_machine(table, lot) for lot in lots])


def cases():
    chance = Random(3)
    tables = [table for table in SMALL if table.classes < 6][::2] + [EVENS, ODDS, BOTH] * 8
    for table in tables:
        pattern = chance_pattern(chance.randrange(10 ** 6), table.letters, 1 + chance.randrange(3),
                                 1 + chance.randrange(8), ("", "a", "b", ""))
        if chance.randrange(3) == 0:
            pattern = chance.choice([TWICE, AMID, row(X, Y), star(X), either(X, row(Y, X)), row(star(X), Y), star(row(X, X))])
        if filled(table, pattern) * table.classes <= 10 and (table.letters > 1 or "'b'" not in str(pattern)):
            yield table, chance.randrange(len(table.machines())), pattern


CASES = list(cases())


class Made(unittest.TestCase):

    def test_all_fillings(self):
        """It is made just if some filling of all makes it; then a greatest one does."""
        seen = []
        for table, position, pattern in CASES:
            machine, many = table.machines()[position], filled(table, pattern)
            by_hand = [lots for lots in all_of(lots_of(table), repeat=many)
                       if machine_by_hand(table, pattern, lots) == machine]
            told = making(table, position, pattern)
            seen.append(told is None)
            self.assertIs(is_made(table, position, pattern), bool(by_hand))
            self.assertIs(told is None, not by_hand)
            if told is not None:
                self.assertIn(tuple(told), by_hand)
                self.assertEqual(len(told), many)
                self.assertIs(is_making(table, position, pattern, told), True)
                self.assertTrue([lots for lots in greatest(table, many, [(pattern, position)])
                                 if tuple(lots) in by_hand])
        self.assertEqual(set(seen), {True, False})
        self.assertGreater(len(seen), 100)

    def test_examples_by_words(self):
        """[66]"""
        self.assertIs(is_made(EVENS, 0, TWICE), True)
        self.assertEqual(making(EVENS, 0, TWICE), [[0]])
        self.assertIs(is_making(EVENS, 0, TWICE, [[0]]), True)
        self.assertIs(is_making(EVENS, 0, TWICE, [[1]]), False)
        self.assertEqual(lost(EVENS, 0, TWICE, [[1]]), "")
        self.assertEqual(greatest(EVENS, 1, [(AMID, 0)]), [[[]]])
        self.assertEqual(losses(EVENS, 0, AMID), [([[]], "")])

    def test_words_of_the_pattern_are_alone(self):
        """Not all words of their classes."""
        self.assertIs(is_made(EVENS, 0, word("")), False)
        self.assertIs(is_made(EVENS, 0, star(either(word("aa"), word("b")))), False)
        self.assertIs(is_made(EVENS, 0, star(either(row(word("a"), star(word("b")), word("a")), word("b")))), True)
        self.assertIs(is_made(EVENS, 0, either(X, word("aa"))), True)
        self.assertIs(is_making(EVENS, 0, star(either(row(word("a"), star(word("b")), word("a")), word("b"))), [[]]), True)

    def test_pattern_without_names(self):
        ab = Table([of_words(2, ["ab"])])
        self.assertEqual(making(ab, 0, word("ab")), [list(range(ab.classes))])
        self.assertIsNone(making(ab, 0, word("a")))
        self.assertEqual(losses(ab, 0, word("a")), [])
        self.assertIs(is_losses(ab, 0, word("a"), ()), True)

    def test_names_up_to_the_greatest(self):
        told = making(EVENS, 0, row(Z, Z))
        self.assertEqual(told, [[0, 1], [0, 1], [0]])
        self.assertEqual(making(EVENS, 0, Y), [[0, 1], [0]])
        self.assertIs(is_making(EVENS, 0, Y, [[], [0]]), True)
        self.assertIs(is_making(EVENS, 0, Y, [[0]]), False)

    def test_no_right_filling(self):
        self.assertIs(is_made(ODDS, 0, star(X)), False)
        self.assertIsNone(making(ODDS, 0, star(X)))
        self.assertEqual(losses(ODDS, 0, star(X)), [])
        self.assertIs(is_losses(ODDS, 0, star(X), []), True)

    def test_the_empty_lot(self):
        nothing = Table([of_words(2, [])])
        self.assertEqual(making(nothing, 0, X), [[]])
        self.assertIs(is_made(nothing, 0, row(X, Y)), True)
        self.assertIs(is_made(nothing, 0, star(X)), False)
        self.assertIsNone(losses(nothing, 0, X))

    def test_each_position(self):
        self.assertEqual(making(BOTH, 0, X), [[0, 2, 3]])
        self.assertEqual(making(BOTH, 1, X), [[1, 3]])
        self.assertIs(is_made(pattern=star(X), position=1, table=BOTH), False)
        self.assertEqual(making(pattern=row(X, Y), position=1, table=BOTH)[1], [1, 3])

    def test_new(self):
        told = making(EVENS, 0, row(X, Y))
        wanted = [list(lot) for lot in told]
        told[0].append(9)
        told.append([])
        self.assertEqual(making(EVENS, 0, row(X, Y)), wanted)
        self.assertEqual([type(one) for one in (told, *told)], [list] * 4)


class IsMaking(unittest.TestCase):

    def test_all_fillings(self):
        for table, position, pattern in CASES[::3]:
            machine, least = table.machines()[position], filled(table, pattern)
            for many in range(1, 4):
                for lots in list(all_of(lots_of(table), repeat=many))[::(1, 7, 97)[many - 1]]:
                    wanted = (names_of(table.letters, pattern) or [-1])[-1] < many
                    wanted = wanted and machine_by_hand(table, pattern, lots) == machine
                    self.assertIs(is_making(table, position, pattern, lots), wanted)
            self.assertIs(is_making(table, position, pattern, [[]] * (least - 1)), False)

    def test_any_sequence_and_more_lots(self):
        self.assertIs(is_making(BOTH, 0, X, ((3, 0, 2),)), True)
        self.assertIs(is_making(BOTH, 0, X, [[3, 0, 2], [1], ()]), True)
        self.assertIs(is_making(value=[(2, 0, 3)], pattern=X, position=0, table=BOTH), True)

    def test_any_value(self):
        for value in JUNK + (
                0, "", "0", [], (), [0], (0,), [[0]] * 4, [[0, 0]], [[False]], [[0], [True]], [[0], None], [[2]], [[0], [5]],
                [{0}], [["0"]], [[[0]]], {0: [0]}, [[0, 1]], [[1]], [[]], EVEN, [EVEN], ["0"], [[-1]]):
            self.assertIs(is_making(EVENS, 0, TWICE, value), False, value)
        for value in ([[0]], ((0,),), [[0], [1]], [[0], [], [0, 1]]):
            self.assertIs(is_making(EVENS, 0, TWICE, value), True)


class Lost(unittest.TestCase):

    def test_by_hand(self):
        for table, position, pattern in CASES:
            machine, many = table.machines()[position], filled(table, pattern)
            length = {1: 6, 2: 4, 3: 3}[table.letters]
            for lots in list(all_of(lots_of(table), repeat=many))[::13]:
                told = lost(table, position, pattern, lots)
                by_class = [[one for one in all_words(table.letters, length) if class_of(table, one) in lot]
                            for lot in lots]
                found = made_by_hand(pattern, by_class, length)
                left = [one for one in words_of(machine, length) if one not in found]
                if left:
                    self.assertEqual(told, left[0])
                elif told is not None:
                    self.assertGreater(len(told), length)
                    self.assertIs(lets(machine, told), True)
                else:
                    self.assertIs(is_within(machine, machine_by_hand(table, pattern, lots)), True)

    def test_lots_that_make_more(self):
        """Words that are made and not let do not matter."""
        self.assertIsNone(lost(EVENS, 0, X, [[0, 1]]))
        self.assertEqual(lost(EVENS, 0, X, [[1]]), "")
        self.assertEqual(lost(EVENS, 0, either(X, word("")), [[1]]), "b")
        self.assertIsNone(lost(ODDS, 0, star(X), [[1]]))
        self.assertEqual(lost(BOTH, 1, X, [[0, 2, 3, 4]]), "a")

    def test_more_lots(self):
        self.assertEqual(lost(lots=((1,), (), (0,)), pattern=TWICE, position=0, table=EVENS), "")

    def test_long_words(self):
        """The first word that is lost may be longer than words are."""
        table, pattern = Table([wheel(11)]), either(*[word("a" * many) for many in range(0, 56, 11)])
        self.assertEqual(lost(table, 0, pattern, [[]]), "a" * 66)
        told = losses(table, 0, pattern)
        self.assertEqual(told, [([list(range(11))], "a" * 66)])
        self.assertIs(is_losses(table, 0, pattern, told), True)
        for many in (55, 60, 65, 67, 77, 88):
            self.assertIs(is_losses(table, 0, pattern, [(told[0][0], "a" * many)]), False)


class Losses(unittest.TestCase):

    def test_each_greatest_one(self):
        seen = []
        for table, position, pattern in CASES:
            many, machine = filled(table, pattern), table.machines()[position]
            told, fillings = losses(table, position, pattern), greatest(table, many, [(pattern, position)])
            makes = [machine_by_hand(table, pattern, lots) == machine for lots in fillings]
            if any(makes):
                self.assertIsNone(told)
                self.assertIs(is_losses(table, position, pattern, [(lots, "") for lots in fillings]), False)
                continue
            self.assertEqual([type(told)] + [type(loss) for loss in told], [list] + [tuple] * len(told))
            self.assertEqual([lots for lots, _ in told], fillings)
            self.assertEqual([one for _, one in told], [lost(table, position, pattern, lots) for lots in fillings])
            for lots, one in told:
                # What is made lies within: so the first that parts is the first that is lost.
                self.assertEqual(one, parting(machine, machine_by_hand(table, pattern, lots)))
            self.assertIs(is_losses(table, position, pattern, told), True)
            seen.append(len(told))
        self.assertTrue({0, 1} <= set(seen))

    def test_several(self):
        both = row(X, word("b"), Y)
        told = losses(EVENS, 0, both)
        self.assertEqual(told, [([[], [0, 1]], ""), ([[0], [0]], ""), ([[0, 1], []], ""), ([[1], [1]], "")])
        for value in (told, tuple(told), told[:1] + [([(0,), (0,)], "aa")] + told[2:],
                      [(((), (1, 0)), "bb")] + told[1:], [told[0], told[1], told[2], ([[1], [1]], "b")]):
            self.assertIs(is_losses(EVENS, 0, both, value), True, value)
        for value in (told[1:], told[:-1], told + told[:1], told[:1] + told, told[::-1], [told[1], told[0], *told[2:]],
                      [*told[:3], told[2]], [list(loss) for loss in told], told[:3] + [list(told[3])], [told], (told,),
                      {loss[1]: loss[0] for loss in told}, [loss + ("",) for loss in told], [loss[::-1] for loss in told],
                      [loss[:1] for loss in told], told[:3] + [None], told[:3] + [([[1], [1]], "bab")],
                      told[:3] + [([[1], [1]], "a")], told[:3] + [([[1], [1]], "aba")], told[:3] + [([[1], [1]], None)],
                      told[:3] + [([[1], [1]], "c")], told[:3] + [([[1], [1]], ["a", "a"])], told[:3] + [([[1], [1]], b"")],
                      told[:3] + [([[1]], "")], told[:3] + [([[1], [1], []], "")], told[:3] + [([[1], [1, 1]], "")],
                      told[:3] + [([[1], [True]], "")], told[:3] + [([[1], []], "")], told[:3] + [([[1], None], "")],
                      told[:3] + [(None, "")], told[:3] + [([[1], [2]], "")], told[:3] + [([[1], [1]], "b" * 61)],
                      told[:3] + [([[1], [1]], 0)], told[:3] + [([{1}, {1}], "")]):
            self.assertIs(is_losses(EVENS, 0, both, value), False, value)

    def test_whatever_lost_words(self):
        for one in all_words(2, 5):
            wanted = lets(EVEN, one) and one not in ("a", "bab")
            self.assertIs(is_losses(EVENS, 0, AMID, [([[]], one)]), wanted)
            odd = either(row(X, X), word("aa"))
            self.assertIs(is_losses(ODDS, 0, odd, [([[]], one)]), False)
        some = either(row(X, word("a"), X), word("bb"))
        self.assertEqual(losses(EVENS, 0, some), [([[]], "")])
        for one, right in (("", True), ("b", True), ("bb", False), ("bbb", True), ("ab", False), ("a" * 60, True),
                           ("b" * 61, False), ("a" * 62, False)):
            self.assertIs(is_losses(EVENS, 0, some, ((((),), one),)), right)

    def test_made(self):
        self.assertIsNone(losses(EVENS, 0, TWICE))
        for value in JUNK + ([], [([[0]], ""), ([[1]], "")], [([[1]], "")], [([[0]], "a"), ([[1]], "")]):
            self.assertIs(is_losses(EVENS, 0, TWICE, value), False)

    def test_any_value(self):
        for value in JUNK + (0, "", "[]", (), [], [()], [([[]],)], ([[]], ""), [[[[]], ""]], [(([],), "a")], [([], "")],
                             [([[]], "")] * 2, EVEN, [EVEN], [0], [("", "")], {(): ""}):
            self.assertIs(is_losses(EVENS, 0, AMID, value), False, value)
        for value in ([([[]], "")], (([()], "aa"),), ((((),), "b"),)):
            self.assertIs(is_losses(value=value, pattern=AMID, position=0, table=EVENS), True)

    def test_new(self):
        told = losses(EVENS, 0, AMID)
        told[0][0][0].append(9)
        told[0][0].append([])
        told.append(0)
        self.assertEqual(losses(EVENS, 0, AMID), [([[]], "")])
        lots = [[1, 0]]
        lost(EVENS, 0, X, lots)
        value = [([[]], "")]
        is_losses(EVENS, 0, AMID, value)
        self.assertEqual((lots, value), ([[1, 0]], [([[]], "")]))


class Bounds(unittest.TestCase):

    def test_of_greatest(self):
        table = group(24)
        for function, further in ((is_made, ()), (making, ()), (losses, ()), (is_losses, (None,)), (is_losses, ([],))):
            error = stopped(self, TooMany, function, table, 0, TWICE, *further)
            self.assertEqual((error.what, error.limit), ("fillings", 60))
            error = stopped(self, TooMany, function, table, 0, Y, *further)
            self.assertEqual((error.what, error.limit), ("choices", 24))
        self.assertEqual(making(table, 0, X), [list(range(1, 24))])
        # These need no greatest ones.
        self.assertIs(is_making(table, 0, Y, [[], list(range(1, 24))]), True)
        self.assertIs(is_making(table, 0, TWICE, [[1]]), False)
        self.assertEqual(lost(table, 0, row(Y, Y), [[], [1]]), "a")

    def test_of_made(self):
        table = Table([wheel(2)])
        long = row(word("a" * 58), word("aa"), X)
        for function, further in ((is_made, ()), (making, ()), (losses, ()), (is_making, ([[0]],)), (lost, ([[0]],)),
                                  (is_losses, ([([[0]], "aa")],))):
            error = stopped(self, TooMany, function, table, 0, long, *further)
            self.assertEqual((error.what, error.limit), ("states", 60))
        for value in ([], None, [([[1]], "aa")], [([[0]], 0)]):
            self.assertIs(is_losses(table, 0, long, value), False)
        for value in ([], None, [[2]], [[0]] * 4):
            self.assertIs(is_making(table, 0, long, value), False)

    def test_no_filling_is_needed(self):
        """Nothing is right: so nothing is made of a word that is too long."""
        table = Table([of_words(1, [])])
        self.assertEqual(losses(table, 0, word("a" * 60)), [])
        self.assertIs(is_made(table, 0, word("a" * 60)), False)
        self.assertIs(is_losses(table, 0, word("a" * 60), []), True)


class Wrong(unittest.TestCase):

    def test_all(self):
        wrong = {"table": WRONG_TABLES, "position": WRONG_POSITIONS, "pattern": WRONG_PATTERNS, "lots": WRONG_FILLINGS}
        right = {"table": BOTH, "position": 1, "pattern": X}
        for function in (is_made, making, losses):
            wrongs(self, function, right, wrong)
        wrongs(self, lost, {**right, "lots": [[1]]}, wrong)
        for function in (is_making, is_losses):
            wrongs(self, function, {**right, "value": None}, wrong)

    def test_names_that_are_not_reached(self):
        for lots in ([[0]], ((0,), [1])):
            self.assertIs(stopped(self, InvalidFilling, lost, BOTH, 0, Z, lots).value, lots)

    def test_too_many_last(self):
        table = group(24)
        for function, further in ((is_made, ()), (making, ()), (losses, ()), (is_losses, (None,))):
            stopped(self, InvalidPosition, function, table, 1, Y, *further)
            stopped(self, InvalidPattern, function, table, 0, word("b"), *further)
        stopped(self, InvalidFilling, lost, Table([wheel(2)]), 0, row(word("a" * 60), Y), [[0]])

    def test_rounds(self):
        """A machine with its own rounds is made by rounds."""
        for machine in (rounds(of_words(2, ["ab", "b"])), rounds(LAST), EVEN):
            self.assertIs(is_made(Table([machine]), 0, star(X)), True)


if __name__ == "__main__":
    unittest.main()
