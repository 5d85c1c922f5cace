"""[55] fillings between bounds, and the greatest ones of these."""

import unittest
from itertools import product as all_of
from random import Random

from by_hand import X, Y, Z, row, star, word
from helpers import JUNK, chance_machine, stopped, wrongs
from test_greatest import CASES, WRONG_SAYINGS, group, is_right_by_hand
from test_machines import EVEN
from test_middles import EVENS, WRONG_FILLINGS, WRONG_MANY
from test_pairs import lots_of
from test_tables import BOTH, LAST, WRONG_TABLES
from widefills.bounds import bounded, fits
from widefills.errors import (InvalidFilling, InvalidLeast, InvalidMany, InvalidMost, InvalidSayings, InvalidTable,
                              TooMany)
from widefills.greatest import greatest, is_right
from widefills.lots import lot_machine, widened
from widefills.machines import Machine
from widefills.makings import of_words
from widefills.tables import Table, passed

NOTHING, EVERYTHING, ODD_WORDS = of_words(2, []), Machine(2, [[0, 0]], [0]), of_words(2, ["a", "bab"])
# Of the table BOTH, of two letters and two machines, for two names.
WRONG_LEAST = (InvalidLeast, JUNK + (
    0, "", [], (), EVEN, [None], [EVEN], [None] * 3, [EVEN] * 3, [None, 0], [0, None], [EVEN, True], [None, [EVEN]],
    [of_words(1, []), None], [None, of_words(3, ["a"])], [[0], [1]], ["", ""], {None: 0, EVEN.states: 1}, [Machine, None]))
WRONG_MOST = (InvalidMost, JUNK + (
    0, "", [], (), EVEN, [None], [0], [None] * 3, [0, 1, 0], [None, 2], [2, None], [-1, 0], [True, 0], [0, False],
    [None, "0"], [None, [0]], [EVEN, None], [0, 10 ** 30], {0: 1, 1: 0}, "01", [[0], [1]]))


def between_by_hand(table, least, most, lots):
    """Whether the lots have all classes of the least ones' words, and only classes of words that the most ones let."""
    for machine, position, lot in zip(least, most, lots):
        if machine is not None and not set(widened(table, machine)) <= set(lot):
            return False
        if position is not None and not set(lot) <= set(passed(table, position)):
            return False
    return True


def bounded_by_hand(table, many, sayings, least, most):
    """All right fillings between to which no class can be added, so that they stay so; of all fillings."""
    every = [tuple(lot) for lot in lots_of(table)]
    right = {lots for lots in all_of(every, repeat=many)
             if between_by_hand(table, least, most, lots) and is_right_by_hand(table, sayings, lots)}
    found = []
    for lots in right:
        grown = [lots[:at] + (tuple(sorted((*lot, one))),) + lots[at + 1:]
                 for at, lot in enumerate(lots) for one in range(table.classes) if one not in lot]
        if not any(more in right for more in grown):
            found.append([list(lot) for lot in lots])
    return sorted(found)


def cases():
    """Small tables with sayings, each with bounds by chance."""
    chance = Random(11)
    for seed, (table, many, sayings) in enumerate(CASES * 3):
        least = [chance.choice([None, None, chance_machine(seed, table.letters, 2), of_words(table.letters, ["a"]),
                                of_words(table.letters, [""]), lot_machine(table, [chance.randrange(table.classes)])])
                 for _ in range(many)]
        most = [chance.choice([None, None, chance.randrange(len(table.machines()))]) for _ in range(many)]
        yield table, many, sayings, least, most


class Bounded(unittest.TestCase):

    def test_all_fillings(self):
        seen = []
        for table, many, sayings, least, most in cases():
            wanted = bounded_by_hand(table, many, sayings, least, most)
            self.assertEqual(bounded(table, many, sayings, least, most), wanted)
            seen.append(len(wanted))
            for lots in wanted:
                self.assertIs(fits(table, sayings, least, most, lots), True)
        self.assertTrue({0, 1, 2, 3} <= set(seen))

    def test_without_bounds(self):
        """All greatest ones."""
        for table, many, sayings in CASES:
            none = [None] * many
            wanted = greatest(table, many, sayings)
            self.assertEqual(bounded(table, many, sayings, none, none), wanted)
            self.assertEqual(bounded(table, many, sayings, [of_words(table.letters, [])] * many, tuple(none)), wanted)

    def test_nothing_between(self):
        both = [(row(X, X), 0)]
        self.assertEqual(bounded(EVENS, 1, both, [EVERYTHING], [None]), [])
        self.assertEqual(bounded(EVENS, 1, both, [ODD_WORDS], [0]), [])
        self.assertEqual(bounded(EVENS, 1, [(word("a"), 0)], [None], [None]), [])
        # The bounds have fillings between, but none of them is right.
        self.assertEqual(bounded(EVENS, 2, [(row(X, Y), 0)], [ODD_WORDS, EVEN], [None, 0]), [])
        self.assertIs(fits(EVENS, [(row(X, Y), 0)], [ODD_WORDS, EVEN], [None, 0], [[1], [0]]), False)

    def test_other_greatest_ones_than_without(self):
        """Within the most ones a filling may be greatest that is not so without them."""
        sayings = [(row(X, Y), 0)]
        none = [None, None]
        self.assertEqual(bounded(EVENS, 2, sayings, none, [None, 0]), [[[0], [0]], [[0, 1], []]])
        self.assertEqual(bounded(EVENS, 2, sayings, none, [0, 0]), [[[0], [0]]])
        self.assertEqual(bounded(EVENS, 2, sayings, [None, ODD_WORDS], none), [[[], [0, 1]], [[1], [1]]])
        self.assertEqual(bounded(EVENS, 2, sayings, [ODD_WORDS, None], [None, 0]), [[[0, 1], []]])

    def test_a_name_that_no_pattern_has(self):
        told = bounded(BOTH, 3, [(X, 0)], [None, ODD_WORDS, EVEN], [None, None, 0])
        self.assertEqual(told, [[[0, 2, 3], [0, 1, 2, 3, 4], [0, 2, 3]]])
        self.assertEqual(bounded(BOTH, 2, [(X, 0)], [None, EVEN], [None, 1]), [])

    def test_all_classes_of_the_least_words(self):
        """Of a least one's word all words of its class are wanted."""
        self.assertEqual(bounded(BOTH, 1, [(X, 0)], [of_words(2, ["aba"])], [None]), [[[0, 2, 3]]])
        self.assertEqual(bounded(BOTH, 1, [(row(X, X), 0)], [of_words(2, ["aab"])], [None]), [[[0, 2, 3]]])
        self.assertEqual(bounded(BOTH, 1, [(row(X, X), 0)], [of_words(2, ["ba"])], [None]), [[[1, 4]]])
        self.assertEqual(bounded(BOTH, 1, [(row(X, X), 0)], [of_words(2, ["ba", "b"])], [None]), [])

    def test_kinds_and_new(self):
        sayings, least, most = ((row(X, Y), 0),), (None, ODD_WORDS), [None, None]
        told = bounded(most=most, least=least, sayings=sayings, many=2, table=EVENS)
        seen = [told] + told + [lot for lots in told for lot in lots]
        self.assertEqual({type(one) for one in seen}, {list})
        self.assertEqual(len({id(one) for one in seen}), len(seen))
        for one in seen[::-1]:
            one.append(9)
        self.assertEqual(bounded(EVENS, 2, sayings, least, most), [[[], [0, 1]], [[1], [1]]])
        self.assertEqual((least, most), ((None, ODD_WORDS), [None, None]))

    def test_too_many_choices(self):
        for classes, many in ((24, 1), (12, 2), (8, 3)):
            table, none = group(classes), [None] * 3
            self.assertEqual(bounded(table, many, [(X, 0)], none[:many], none[:many]), greatest(table, many, [(X, 0)]))
            for more in range(many + 1, 4):
                error = stopped(self, TooMany, bounded, table, more, [(X, 0)], none[:more], [0] * more)
                self.assertEqual((error.what, error.limit), ("choices", 24))

    def test_too_many_fillings(self):
        """Counted are those within the most ones, also such as have not all of the least ones."""
        sayings, one = [(row(X, X), 0)], Machine(1, [[0]], [0])
        table = group(13)
        for least in (None, one, of_words(1, ["a"])):
            error = stopped(self, TooMany, bounded, table, 1, sayings, [least], [None])
            self.assertEqual((error.what, error.limit), ("fillings", 60))
        few = Table([table.machines()[0], Machine(1, [[1], [2], [2]], [0, 1])])
        self.assertLess(few.classes, 24)
        stopped(self, TooMany, bounded, few, 1, sayings, [None], [None])
        self.assertEqual(bounded(few, 1, sayings, [None], [1]), [[[1]]])
        self.assertEqual(bounded(few, 1, sayings, [of_words(1, ["a"])], [1]), [[[1]]])
        self.assertEqual(bounded(few, 1, sayings, [of_words(1, ["aa"])], [1]), [])


class Fits(unittest.TestCase):

    def test_all_fillings(self):
        seen = []
        for table, many, sayings, least, most in list(cases())[::5]:
            for lots in list(all_of(lots_of(table), repeat=many))[::5]:
                told = fits(table, sayings, least, most, lots)
                seen.append(told)
                self.assertIs(told, is_right(table, sayings, lots) and between_by_hand(table, least, most, lots))
        self.assertEqual(set(seen), {True, False})

    def test_either_bound(self):
        sayings = [(row(X, X), 0)]
        for least, most, lots, right in (
                ([None], [None], [[1, 4]], True), ([of_words(2, ["a"])], [None], [[1, 4]], True),
                ([of_words(2, ["a"])], [None], [[4]], False), ([None], [1], [[1]], True), ([None], [1], [[1, 4]], False),
                ([of_words(2, ["a"])], [1], [[1]], True), ([None], [1], [[1, 3]], False), ([NOTHING], [0], [[]], True),
                ([of_words(2, [""])], [0], [[0]], True), ([of_words(2, [""])], [0], [[2]], False)):
            self.assertIs(fits(BOTH, sayings, least, most, lots), right)
        self.assertIs(fits(lots=((4, 1),), most=(None,), least=(None,), sayings=tuple(sayings), table=BOTH), True)

    def test_as_long_as_lots(self):
        for many in (1, 2, 3):
            lots = [[0]] * many
            self.assertIs(fits(BOTH, [(X, 0)], [None] * many, [None] * many, lots), True)
            for other in (0, 1, 2, 3, 4):
                if other != many:
                    least, most = [None] * other, (None,) * other
                    self.assertIs(stopped(self, InvalidLeast, fits, BOTH, [(X, 0)], least, most, lots).value, least)
                    error = stopped(self, InvalidMost, fits, BOTH, [(X, 0)], [None] * many, most, lots)
                    self.assertIs(error.value, most)

    def test_no_bound(self):
        table = group(24)
        self.assertIs(fits(table, [(row(X, X), 0)], [None] * 3, [0, None, None], [[1, 2], [0], []]), True)


class Wrong(unittest.TestCase):

    def test_bounded(self):
        wrong = {"table": WRONG_TABLES, "many": WRONG_MANY, "sayings": WRONG_SAYINGS, "least": WRONG_LEAST,
                 "most": WRONG_MOST}
        wrongs(self, bounded, {"table": BOTH, "many": 2, "sayings": [(row(X, Y), 0)], "least": [None, EVEN],
                               "most": [None, 1]}, wrong)

    def test_fits(self):
        """The lots are looked at ahead of least and most."""
        right = {"table": BOTH, "sayings": [(row(X, Y), 0)], "least": [None, EVEN], "most": [None, 1],
                 "lots": [[1], [2]]}
        wrongs(self, fits, right, {"least": WRONG_LEAST, "most": WRONG_MOST})
        for name, (error, values) in (("table", WRONG_TABLES), ("sayings", WRONG_SAYINGS), ("lots", WRONG_FILLINGS)):
            for value in values:
                for least, most in (([None, EVEN], [None, 1]), (None, None), ([None], [7])):
                    told = {**right, "least": least, "most": most, name: value}
                    self.assertIs(stopped(self, error, fits, **told).value, value)
        stopped(self, InvalidTable, fits, None, None, None, None, None)
        stopped(self, InvalidSayings, fits, BOTH, None, None, None, None)

    def test_names_that_are_not_reached(self):
        for sayings, many in (([(Y, 0)], 1), ([(X, 0), (star(Z), 1)], 2)):
            for least, most in (([None] * many, [None] * many), (None, None)):
                self.assertEqual(stopped(self, InvalidMany, bounded, BOTH, many, sayings, least, most).value, many)
                lots = [[0]] * many
                self.assertIs(stopped(self, InvalidFilling, fits, BOTH, sayings, least, most, lots).value, lots)

    def test_too_many_last(self):
        table = group(24)
        stopped(self, InvalidLeast, bounded, table, 2, [(X, 0)], [None], [None])
        stopped(self, InvalidMost, bounded, table, 2, [(X, 0)], [None] * 2, [None])
        stopped(self, InvalidMost, bounded, table, 1, [(row(X, X), 0)], [None], [1])

    def test_letters_of_the_table(self):
        one = Table([of_words(1, ["a"])])
        stopped(self, InvalidLeast, bounded, one, 1, [(X, 0)], [LAST], [0])
        stopped(self, InvalidMost, bounded, one, 1, [(X, 0)], [None], [1])


if __name__ == "__main__":
    unittest.main()
