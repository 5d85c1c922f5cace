"""[23], [24], [25], [26] lots of classes."""

import unittest
from itertools import combinations

from helpers import JUNK, all_words, chance_machine, stopped, wrongs
from test_machines import EVEN, WRONG_MACHINES
from test_tables import BOTH, LAST, TABLES, TURNS, WRONG_TABLES
from widefills.errors import InvalidLot, InvalidMachine, UnlikeLetters
from widefills.lots import behind_lots, lot_machine, rest_ahead, rest_behind, rounds_lot, widened
from widefills.machines import Machine, is_empty, words_of
from widefills.makings import behind, is_within, joined, met, of_words, rounds
from widefills.tables import Table, class_of, passed, product

WRONG_LOTS = (InvalidLot, JUNK + (
    0, "", "01", [5], [0, 5], [-1], [0, 0], (1, 2, 1), [True], [False], [0, True], [None], ["0"], [[0]], [(0,)],
    [10 ** 30], [0, 1, 2, 3, 4, 5], EVEN))
OF_TWO = (behind_lots, rest_behind, rest_ahead)


def some_lots(table):
    """Lots of a few classes, nothing and everything with them."""
    classes = range(table.classes)
    few = [list(lot) for many in range(3) for lot in combinations(classes, many)]
    return few[:4] + few[4::5][:6] + [list(classes)]


class Machines(unittest.TestCase):

    def test_lot_machine(self):
        for table in TABLES[::5]:
            for lot in some_lots(table):
                machine = lot_machine(table, lot)
                wanted = [word for word in all_words(table.letters, 4) if class_of(table, word) in lot]
                self.assertEqual(words_of(machine, 4), wanted)
                self.assertIs(is_empty(machine), not lot)
                self.assertEqual(widened(table, machine), lot)

    def test_the_passed_lot_is_the_machine(self):
        for table in TABLES:
            for position, machine in enumerate(table.machines()):
                self.assertEqual(lot_machine(table, passed(table, position)), machine)
                self.assertEqual(widened(table, machine), passed(table, position))

    def test_widened(self):
        for at, table in enumerate(TABLES):
            machine = chance_machine(at + 1000, table.letters, 1 + at % 5)
            lot = widened(table, machine)
            self.assertEqual(lot, sorted(lot))
            found = {class_of(table, word) for word in words_of(machine, 6)}
            self.assertTrue(found <= set(lot))
            wide = lot_machine(table, lot)
            self.assertIs(is_within(machine, wide), True)
            for one in lot:
                less = lot_machine(table, [other for other in lot if other != one])
                self.assertIs(is_within(machine, less), False)

    def test_widened_ends(self):
        self.assertEqual(widened(BOTH, of_words(2, [])), [])
        self.assertEqual(widened(BOTH, of_words(2, [""])), [0])
        self.assertEqual(widened(machine=Machine(2, [[0, 0]], [0]), table=BOTH), [0, 1, 2, 3, 4])
        self.assertEqual(widened(BOTH, of_words(2, ["a" * 29 + "b" * 29])), [4])


class Lots(unittest.TestCase):

    def test_behind_and_rounds(self):
        for table in TABLES[::5]:
            for lot in some_lots(table):
                one = lot_machine(table, lot)
                self.assertEqual(rounds_lot(table, lot), widened(table, rounds(one)))
                self.assertIn(0, rounds_lot(table, lot))
                for other in some_lots(table)[::2]:
                    made = behind_lots(table, lot, other)
                    self.assertEqual(made, sorted({product(table, near, far) for near in lot for far in other}))
                    if table.classes < 9:
                        self.assertEqual(made, widened(table, behind(one, lot_machine(table, other))))

    def test_rests(self):
        for table in TABLES[::5]:
            for lot in some_lots(table):
                for other in some_lots(table):
                    rest = rest_behind(table, lot, other)
                    self.assertTrue(set(behind_lots(table, lot, rest)) <= set(other))
                    for one in set(range(table.classes)) - set(rest):
                        self.assertFalse(set(behind_lots(table, lot, [one])) <= set(other))
                    rest = rest_ahead(table, lot, other)
                    self.assertTrue(set(behind_lots(table, rest, lot)) <= set(other))
                    for one in set(range(table.classes)) - set(rest):
                        self.assertFalse(set(behind_lots(table, [one], lot)) <= set(other))
                    self.assertEqual(rest, sorted(rest))

    def test_empty_first_lot(self):
        for table in TABLES[::5]:
            everything = list(range(table.classes))
            for other in ([], [0], everything):
                self.assertEqual(rest_behind(table, [], other), everything)
                self.assertEqual(rest_ahead(table, [], other), everything)
            self.assertEqual(behind_lots(table, [], everything), [])
            self.assertEqual(behind_lots(table, everything, []), [])
            self.assertEqual(rounds_lot(table, []), [0])
            self.assertEqual(rest_behind(table, [0], []), [])

    def test_it_matters_which_comes_first(self):
        self.assertEqual((behind_lots(BOTH, [1], [2]), behind_lots(BOTH, [2], [1])), ([4], [1]))
        self.assertEqual((rest_behind(BOTH, [1], [1, 3]), rest_ahead(BOTH, [1], [1, 3])), ([0, 1, 3], [0, 1, 2, 3, 4]))
        self.assertEqual(behind_lots(other=[2], table=BOTH, lot=[1]), [4])
        self.assertEqual(rest_behind(other=[1, 3], table=BOTH, lot=[1]), [0, 1, 3])
        self.assertEqual(rest_ahead(other=[1, 4], table=BOTH, lot=[0]), [1, 4])

    def test_many_rounds(self):
        table = Table([TURNS])
        self.assertEqual(rounds_lot(table, [1, 2]), list(range(24)))
        self.assertEqual(len(rounds_lot(table, [1])), 4)
        self.assertEqual(len(rounds_lot(lot=[2], table=table)), 2)

    def test_tuples_in_any_sequence(self):
        self.assertEqual(lot_machine(BOTH, (3, 1)), LAST)
        self.assertEqual(lot_machine(lot=[1, 3], table=BOTH), LAST)
        self.assertEqual(behind_lots(BOTH, (2, 1), [4, 0]), behind_lots(BOTH, [1, 2], (0, 4)))
        self.assertEqual(rounds_lot(BOTH, (4, 2)), rounds_lot(BOTH, [2, 4]))
        self.assertEqual(rest_behind(BOTH, (2, 1), (3, 0)), rest_behind(BOTH, [1, 2], [0, 3]))
        self.assertEqual(rest_ahead(BOTH, (2, 1), (3, 0)), rest_ahead(BOTH, [1, 2], [0, 3]))

    def test_new(self):
        lot, other = [3, 1], [2, 0]
        for function in OF_TWO:
            function(BOTH, lot, other).append(9)
            self.assertIsNot(function(BOTH, lot, other), other)
        lot_machine(BOTH, lot)
        rounds_lot(BOTH, lot).append(9)
        self.assertEqual((lot, other, BOTH.words()), ([3, 1], [2, 0], ["", "a", "b", "aa", "ab"]))
        self.assertEqual(rounds_lot(BOTH, [1]), [0, 1, 3])
        self.assertEqual([type(function(BOTH, (1,), (2,))) for function in OF_TWO], [list] * 3)

    def test_facts_of_words(self):
        """[25] a lot of all words behind another: perhaps not all words of the classes, but words of just these."""
        for table in TABLES[::11]:
            lot = passed(table, 0)
            made = behind(lot_machine(table, lot), lot_machine(table, lot))
            wide = lot_machine(table, behind_lots(table, lot, lot))
            self.assertIs(is_within(made, wide), True)
            for one in behind_lots(table, lot, lot):
                self.assertIs(is_empty(met(made, lot_machine(table, [one]))), False)
            self.assertEqual(joined(made, wide), wide)


class Wrong(unittest.TestCase):

    def test_all(self):
        wrong = {"table": WRONG_TABLES, "machine": WRONG_MACHINES, "lot": WRONG_LOTS, "other": WRONG_LOTS}
        wrongs(self, widened, {"table": BOTH, "machine": EVEN}, wrong)
        for function in (lot_machine, rounds_lot):
            wrongs(self, function, {"table": BOTH, "lot": [1]}, wrong)
        for function in OF_TWO:
            wrongs(self, function, {"table": BOTH, "lot": [1], "other": (4, 0)}, wrong)

    def test_unlike_letters(self):
        for letters in (1, 3):
            stopped(self, UnlikeLetters, widened, BOTH, of_words(letters, [""]))
        stopped(self, UnlikeLetters, widened, machine=EVEN, table=Table([of_words(1, [])]))
        stopped(self, InvalidMachine, widened, Table([of_words(1, [])]), BOTH)

    def test_against_the_table(self):
        small = Table([EVEN])
        for function in OF_TWO:
            stopped(self, InvalidLot, function, small, [2], [0])
            stopped(self, InvalidLot, function, small, [1], [2])
        stopped(self, InvalidLot, lot_machine, small, [0, 2])
        stopped(self, InvalidLot, rounds_lot, small, [2])


if __name__ == "__main__":
    unittest.main()
