"""[51] to [56] right fillings, greatest ones, breaks."""

import unittest
from itertools import product as all_of
from random import Random

from by_hand import X, Y, Z, chance_pattern, either, made_by_hand, row, star, word
from helpers import JUNK, all_words, stopped, wrongs
from test_machines import EVEN
from test_makings import wheel
from test_middles import EVENS, WRONG_FILLINGS, WRONG_MANY
from test_pairs import SMALL, by_hand, lots_of
from test_patterns import NO_PATTERNS
from test_tables import BOTH, LAST, TURNS, WRONG_CLASSES, WRONG_TABLES
from widefills.errors import (InvalidClass, InvalidFilling, InvalidMany, InvalidName, InvalidSayings, InvalidTable,
                              TooMany)
from widefills.greatest import above, greatest, growing_break, is_greatest, is_growing_break, is_right
from widefills.lots import lot_machine, widened
from widefills.machines import Machine
from widefills.makings import is_within, of_words, rounds, without
from widefills.middles import joined_fillings
from widefills.patterns import made, made_lot
from widefills.readings import is_outside, read_word
from widefills.tables import Table, class_of, passed

ODD = Machine(2, [[1, 0], [0, 1]], [1])
ODDS = Table([ODD])
# Of the table BOTH, of two letters and two machines.
NO_SAYINGS = (
    0, "", [], (), X, (X, 0), [X], [[X, 0]], [(X,)], [(X, 0, 0)], [(X, 2)], [(X, -1)], [(X, True)], [(X, False)],
    [(X, None)], [(X, "0")], [(0, X)], [(X, 0)] * 4, [(X, 0), None], [(X, 0), (X, 2)], [(X, 0), [X, 0]], [(word("c"), 0)],
    [(("name", 3), 0)], [(list(X), 0)], {(X, 0)}, {(X, 0): 1}, [(X, [0])], [(X, 10 ** 30)], [None, (X, 0)], [()])
WRONG_SAYINGS = (InvalidSayings, JUNK + NO_SAYINGS + tuple([(pattern, 0)] for pattern in NO_PATTERNS))
WRONG_NAMES = (InvalidName, JUNK + (2, 3, "", "0", [], [0], (1,), EVEN))


def is_right_by_hand(table, sayings, lots):
    return all(set(made_lot(table, pattern, lots)) <= set(passed(table, position)) for pattern, position in sayings)


def greatest_by_hand(table, many, sayings):
    """All right fillings that lie within no other right one, of all fillings."""
    every = [tuple(lot) for lot in lots_of(table)]
    right = [lots for lots in all_of(every, repeat=many) if is_right_by_hand(table, sayings, lots)]
    below = [[set(lot) for lot in lots] for lots in right]
    return sorted([list(lot) for lot in lots] for lots, some in zip(right, below)
                  if not any(some != more and all(map(set.issubset, some, more)) for more in below))


def cases():
    """Small tables with one to three sayings by chance, mostly of names one behind the other."""
    chance = Random(7)
    tables = [table for table in SMALL if table.classes > 2]
    tables += [Table([wheel(many, *chance.sample(range(many), many - 1 - seed % 2))]) for many in (3, 4, 5)
               for seed in range(20)]
    for table in tables:
        many = chance.choice([1, 2, 2, 3])
        if many * table.classes > 10:
            continue
        names = [("name", name) for name in range(many)]
        patterns = [chance_pattern(chance.randrange(10 ** 6), table.letters, many, chance.randrange(1, 10)),
                    row(*[chance.choice(names) for _ in range(chance.randrange(1, 5))]),
                    star(row(*[chance.choice(names) for _ in range(chance.randrange(1, 3))]))]
        sayings = [(chance.choice(patterns), chance.randrange(len(table.machines())))
                   for _ in range(chance.choice([1, 1, 1, 2, 3]))]
        yield table, many, sayings


CASES = list(cases())


def group(many):
    """A table with as many classes, of words of a by their length; let are all whose length it does not divide."""
    return Table([without(Machine(1, [[0]], [0]), rounds(of_words(1, ["a" * many])))])


class Right(unittest.TestCase):

    def test_words_by_hand(self):
        """Words put together by hand are all let just if the filling is right."""
        for table, many, sayings in CASES[::3]:
            length = {1: 6, 2: 4, 3: 3}[table.letters]
            for lots in list(all_of(lots_of(table), repeat=many))[::5]:
                by_class = [[one for one in all_words(table.letters, length) if class_of(table, one) in lot]
                            for lot in lots]
                made_words = [(one, position) for pattern, position in sayings
                              for one in made_by_hand(pattern, by_class, length)]
                let = all(class_of(table, one) in passed(table, position) for one, position in made_words)
                told = is_right(table, sayings, lots)
                self.assertIs(told, is_right_by_hand(table, sayings, lots))
                if told:
                    self.assertTrue(let)

    def test_sayings_together(self):
        both = [(row(X, X), 0), (X, 1)]
        self.assertIs(is_right(BOTH, both[:1], [[1, 4]]), True)
        self.assertIs(is_right(BOTH, both, [[1, 4]]), False)
        self.assertIs(is_right(BOTH, both[1:], [[1, 3]]), True)
        self.assertIs(is_right(BOTH, both, [[1, 3]]), False)
        self.assertIs(is_right(lots=((1,),), sayings=tuple(both), table=BOTH), True)

    def test_what_lies_within(self):
        for table, many, sayings in CASES[::9]:
            for lots in list(all_of(lots_of(table), repeat=many))[::17]:
                if is_right(table, sayings, lots):
                    for less in all_of(*[[lot, lot[1:], lot[:-1], []] for lot in lots]):
                        self.assertIs(is_right(table, sayings, less), True)

    def test_more_lots_than_names(self):
        self.assertIs(is_right(EVENS, [(row(X, X), 0)], [[1], [0, 1], []]), True)
        self.assertIs(is_right(EVENS, [(word("a"), 0)], [[]]), False)
        self.assertIs(is_right(EVENS, [(word("aa"), 0)], [[0, 1]]), True)


class Greatest(unittest.TestCase):

    def test_all_fillings(self):
        self.assertGreater(len(CASES), 100)
        seen = []
        for table, many, sayings in CASES:
            wanted = greatest_by_hand(table, many, sayings)
            seen.append(len(wanted))
            if len(wanted) > 60:
                stopped(self, TooMany, greatest, table, many, sayings)
            else:
                self.assertEqual(greatest(table, many, sayings), wanted, (many, sayings))
        self.assertTrue({0, 1, 2, 3, 4} <= set(seen))

    def test_examples_by_words(self):
        """[56]"""
        for pattern, many, wanted in ((row(X, X), 1, [[[0]], [[1]]]), (star(X), 1, [[[0]]]),
                                      (row(X, Y), 2, [[[], [0, 1]], [[0], [0]], [[0, 1], []], [[1], [1]]])):
            self.assertEqual(greatest(EVENS, many, [(pattern, 0)]), wanted)
        self.assertEqual(greatest(ODDS, 1, [(star(X), 0)]), [])

    def test_no_right_filling(self):
        nothing = Table([of_words(2, [])])
        for table, pattern in ((ODDS, star(X)), (ODDS, word("b")), (EVENS, either(X, word("a"))), (nothing, star(Z)),
                               (nothing, word("")), (ODDS, either(star(Y), X))):
            self.assertEqual(greatest(table, 3, [(pattern, 0)]), [])
            self.assertIsNone(above(table, 3, [(pattern, 0)], [[], [], []]))
            self.assertIs(is_greatest(table, 3, [(pattern, 0)], [[], [], []]), False)
            self.assertIs(is_right(table, [(pattern, 0)], [[], [], []]), False)
        self.assertEqual(greatest(nothing, 1, [(X, 0)]), [[[]]])

    def test_names_that_no_pattern_has(self):
        self.assertEqual(greatest(EVENS, 3, [(row(Z, Z), 0)]), [[[0, 1], [0, 1], [0]], [[0, 1], [0, 1], [1]]])
        self.assertEqual(greatest(EVENS, 2, [(word("b"), 0)]), [[[0, 1], [0, 1]]])

    def test_several_positions(self):
        two = [(row(X, X), 0), (either(X, word("a")), 1)]
        self.assertEqual(greatest(BOTH, 1, two), greatest_by_hand(BOTH, 1, two))
        self.assertEqual(greatest(BOTH, 1, two), [[[1]], [[3]]])
        turned = Table([LAST, EVEN])
        self.assertEqual(greatest(turned, 1, [(pattern, 1 - position) for pattern, position in two]), [[[1]], [[3]]])
        self.assertEqual(greatest(BOTH, 1, [(X, 0)]), [[[0, 2, 3]]])
        self.assertEqual(greatest(BOTH, 1, [(X, 1)]), [[[1, 3]]])
        self.assertEqual(greatest(BOTH, 1, [(X, 0), (X, 1), (X, 0)]), [[[3]]])

    def test_joined_names(self):
        """One behind the other: as they are read off from pairs."""
        for table in SMALL[::11]:
            for many, pattern in ((1, X), (2, row(X, Y)), (3, row(X, Y, Z))):
                wanted = joined_fillings(table, 0, many)
                if len(wanted) <= 60:
                    self.assertEqual(greatest(table, many, [(pattern, 0)]), wanted)

    def test_any_lots_of_words(self):
        """[52] Whatever lots of words make only what is let: all words of their classes do, too."""
        for seed in range(60):
            first, second = of_words(2, ["a" * (seed % 4), "b"]), of_words(2, ["ab" * (seed % 3), "ba"[:seed % 2]])
            for pattern in (row(X, Y), row(X, X), star(row(X, Y)), either(X, row(Y, Y))):
                lets = is_within(made(2, pattern, [first, second]), [EVEN, LAST][seed % 2])
                lots = [widened(BOTH, first), widened(BOTH, second)]
                self.assertIs(is_right(BOTH, [(pattern, seed % 2)], lots), lets)
                over = [lots_ for lots_ in greatest(BOTH, 2, [(pattern, seed % 2)])
                        if all(set(lot) <= set(more) for lot, more in zip(lots, lots_))]
                self.assertIs(bool(over), lets)

    def test_many_classes(self):
        """Rounds in all 24 turns of four things: the greatest lots are all subgroups that stay within."""
        let = [0, *[one for one in range(1, 24) if one % 3]]
        table = Table([lot_machine(Table([TURNS]), let)])
        self.assertEqual(table.classes, 24)
        told = greatest(table, 1, [(star(X), 0)])
        self.assertEqual(told, sorted(told))
        self.assertGreater(len(told), 3)
        for lots in told:
            self.assertIs(is_greatest(table, 1, [(star(X), 0)], lots), True)
            self.assertEqual(made_lot(table, star(X), lots), lots[0])
        for one in let:
            self.assertIs(is_right(table, [(star(X), 0)], [[one]]), any(one in lots[0] for lots in told))

    def test_new_and_kinds(self):
        sayings = [(row(X, Y), 0)]
        told = greatest(EVENS, 2, sayings)
        seen = [told] + told + [lot for lots in told for lot in lots]
        self.assertEqual(len({id(one) for one in seen}), len(seen))
        self.assertEqual({type(one) for one in seen}, {list})
        for one in seen[::-1]:
            one.append(9)
        self.assertEqual(greatest(EVENS, 2, tuple(sayings)), greatest_by_hand(EVENS, 2, sayings))
        self.assertEqual(sayings, [(row(X, Y), 0)])
        self.assertEqual(greatest(sayings=sayings, many=2, table=EVENS)[0], [[], [0, 1]])


class IsGreatest(unittest.TestCase):

    def test_all_fillings(self):
        for table, many, sayings in CASES[::5]:
            wanted = greatest_by_hand(table, many, sayings)
            for lots in all_of(lots_of(table), repeat=many):
                self.assertIs(is_greatest(table, many, sayings, lots), list(lots) in wanted)

    def test_any_sequence_of_classes(self):
        sayings = [(row(X, Y), 0)]
        for value in ([[0, 1], []], [[1, 0], []], ((1, 0), ()), ((0, 1), [])):
            self.assertIs(is_greatest(EVENS, 2, sayings, value), True)
        self.assertIs(is_greatest(value=[(1,), [1]], sayings=sayings, many=2, table=EVENS), True)

    def test_any_value(self):
        for value in JUNK + (
                0, "", "01", [], (), [0], [[0]], [[0], [0], [0]], [[0], [0, 0]], [[0, 0], [0]], [[False], [0]], [[0], [False]],
                [[1], [True]], [[True], [1]], [[2], [1]], [[0, 1, 2], []], [[0, 1], None], [[0, 1], ""], ["01", []],
                [{0}, {0}], {0: [0], 1: [0]}, [[0, 1], [[]]], [[-1], [1]], [["1"], ["1"]], [[1], [10 ** 30]],
                [EVEN, EVEN], [[0], []], [[], []], [[0, 1], [0]], [[0], [1]]):
            self.assertIs(is_greatest(EVENS, 2, [(row(X, Y), 0)], value), False, value)

    def test_no_bound(self):
        """More choices, and more greatest ones, than are told at once."""
        table = group(24)
        half = [one for one in range(24) if 0 < one < 12]
        self.assertIs(is_greatest(table, 1, [(row(X, X), 0)], [half]), True)
        self.assertIs(is_greatest(table, 1, [(row(X, X), 0)], [half[1:]]), False)
        self.assertIs(is_greatest(table, 3, [(row(X, X), 0)], [half, list(range(24)), list(range(24))]), True)


class Above(unittest.TestCase):

    def test_all_fillings(self):
        for table, many, sayings in CASES[::5]:
            for lots in all_of(lots_of(table), repeat=many):
                told = above(table, many, sayings, lots)
                if not is_right_by_hand(table, sayings, lots):
                    self.assertIsNone(told)
                    continue
                self.assertIs(is_greatest(table, many, sayings, told), True)
                self.assertTrue(all(set(lot) <= set(more) for lot, more in zip(lots, told)))
                self.assertEqual(told, [sorted(lot) for lot in told])

    def test_kinds_and_new(self):
        sayings, lots = [(row(X, Y), 0)], ([], (1,))
        told = above(EVENS, 2, sayings, lots)
        self.assertEqual([type(told)] + [type(lot) for lot in told], [list] * 3)
        wanted = [list(lot) for lot in told]
        told[0].append(9)
        told.append([9])
        self.assertEqual(above(lots=lots, sayings=sayings, many=2, table=EVENS), wanted)
        self.assertEqual(lots, ([], (1,)))
        full = [[1], [1]]
        self.assertEqual(above(EVENS, 2, sayings, full), full)
        self.assertIsNot(above(EVENS, 2, sayings, full)[0], full[0])

    def test_no_bound(self):
        table = group(24)
        told = above(table, 2, [(row(X, X), 0)], [[1], []])
        self.assertIs(is_greatest(table, 2, [(row(X, X), 0)], told), True)
        self.assertIn(1, told[0])


class Breaks(unittest.TestCase):

    def test_all_fillings(self):
        for table, many, sayings in CASES[::7]:
            for lots in list(all_of(lots_of(table), repeat=many))[::7]:
                for name, one in all_of(range(many), range(table.classes)):
                    told = growing_break(table, sayings, lots, name, one)
                    grown = [sorted({*lot, one}) if at == name else list(lot) for at, lot in enumerate(lots)]
                    if is_right_by_hand(table, sayings, grown):
                        self.assertIsNone(told)
                        continue
                    self.assertIs(is_growing_break(table, sayings, lots, name, one, told), True)
                    place, reading = told
                    pattern, position = sayings[place]
                    self.assertEqual((type(told), type(place)), (tuple, int))
                    self.assertIs(is_outside(table, position, pattern, grown, reading), True)
                    self.assertEqual(growing_break(table, sayings, lots, name, one), told)

    def test_a_class_that_is_there(self):
        both = [(row(X, X), 0)]
        self.assertIsNone(growing_break(EVENS, both, [[1]], 0, 1))
        told = growing_break(EVENS, both, [[0, 1]], 0, 1)
        self.assertIs(is_growing_break(EVENS, both, [[0, 1]], 0, 1, told), True)
        # Of a filling that is not right: a break without the added class.
        self.assertIsNotNone(growing_break(EVENS, [(X, 0)], [[1], []], 1, 0))

    def test_the_place(self):
        sayings = [(row(X, X), 0), (row(X, Y), 0), (Y, 0)]
        self.assertEqual(growing_break(EVENS, sayings, [[0], []], 1, 1)[0], 1)
        value = (1, ("behind", ("name", 0, "b"), ("name", 1, "ab")))
        self.assertIs(is_growing_break(EVENS, sayings, [[0], []], 1, 1, value), True)
        self.assertIs(is_growing_break(EVENS, sayings, [[0], []], 1, 1, (2, ("name", 1, "a"))), True)
        for place in (0, 2, 3, -1, True, None, "1", [1]):
            self.assertIs(is_growing_break(EVENS, sayings, [[0], []], 1, 1, (place, value[1])), False, place)
        self.assertIs(is_growing_break(EVENS, sayings, [[0], []], 0, 0, value), False)
        self.assertIs(is_growing_break(value=value, one=1, name=1, lots=((0,), ()), sayings=sayings, table=EVENS), True)

    def test_words_of_the_classes(self):
        both = [(row(X, X), 0)]
        for near, far, right in (("a", "", True), ("", "a", True), ("bab", "b" * 60, True), ("a", "a", False),
                                 ("b", "bb", False), ("a", "b" * 61, False), ("a", "c", False), ("c", "", False)):
            value = (0, ("behind", ("name", 0, near), ("name", 0, far)))
            self.assertIs(is_growing_break(EVENS, both, [[0]], 0, 1, value), right)
            self.assertIs(is_growing_break(EVENS, both, [[1]], 0, 0, value), right)
            self.assertIs(is_growing_break(EVENS, both, [[0]], 0, 0, value), False)

    def test_any_value(self):
        both, reading = [(row(X, X), 0)], ("behind", ("name", 0, "a"), ("name", 0, ""))
        self.assertEqual(read_word(reading), "a")
        self.assertIs(is_growing_break(EVENS, both, [[0]], 0, 1, (0, reading)), True)
        for value in JUNK + (0, "", [], (), (0,), [0, reading], reading, (reading, 0), (0, reading, 0), (0, list(reading)),
                             (False, reading), (0, None), (0, reading[1]), (0, ()), (0, X), (1, reading), ("0", reading),
                             (0, ("behind", ("name", 0, "a"))), (0, (0, reading)), {0: reading}):
            self.assertIs(is_growing_break(EVENS, both, [[0]], 0, 1, value), False, value)

    def test_what_was_passed(self):
        lots, sayings = [[1], [0]], [(row(X, Y), 0)]
        growing_break(EVENS, sayings, lots, 0, 0)
        is_growing_break(EVENS, sayings, lots, 0, 0, None)
        is_right(EVENS, sayings, lots)
        is_greatest(EVENS, 2, sayings, lots)
        self.assertEqual((lots, sayings), ([[1], [0]], [(row(X, Y), 0)]))


class Bounds(unittest.TestCase):

    def test_choices(self):
        for classes, many in ((24, 1), (12, 2), (8, 3)):
            table = group(classes)
            self.assertEqual(table.classes, classes)
            told = greatest(table, many, [(X, 0)])
            self.assertEqual(told, [[list(range(1, classes))] + [list(range(classes))] * (many - 1)])
            for more in range(many + 1, 4):
                error = stopped(self, TooMany, greatest, table, more, [(X, 0)])
                self.assertEqual((error.what, error.limit), ("choices", 24))
        table = Table([of_words(1, ["a" * 11])])
        self.assertEqual(table.classes, 13)
        stopped(self, TooMany, greatest, table, 2, [(X, 0)])

    def test_fillings(self):
        """Of two classes that together make what is not let a greatest one has just one: so they are many."""
        for classes, many in ((10, 16), (11, 32), (12, 32), (13, 64), (14, 64), (24, 2048)):
            table = group(classes)
            if many <= 60:
                self.assertEqual(len(greatest(table, 1, [(row(X, X), 0)])), many)
                continue
            error = stopped(self, TooMany, greatest, table, 1, [(row(X, X), 0)])
            self.assertEqual((error.what, error.limit), ("fillings", 60))

    def test_just_sixty(self):
        sixty = Table([Machine(1, [[state + 1] for state in range(7)] + [[3]], [0, 1, 3, 5, 6, 7])])
        more = Table([Machine(1, [[state + 1] for state in range(10)] + [[7]], [0, 1, 3, 4, 6, 9, 10])])
        self.assertEqual((len(by_hand(sixty, 0)), len(by_hand(more, 0))), (60, 61))
        self.assertEqual(greatest(sixty, 2, [(row(X, Y), 0)]), [[front, back] for front, back in by_hand(sixty, 0)])
        error = stopped(self, TooMany, greatest, more, 2, [(row(X, Y), 0)])
        self.assertEqual((error.what, error.limit), ("fillings", 60))

    def test_choices_ahead_of_fillings(self):
        error = stopped(self, TooMany, greatest, group(24), 2, [(row(X, X), 0)])
        self.assertEqual((error.what, error.limit), ("choices", 24))

    def test_behind_all_else(self):
        table = group(24)
        stopped(self, InvalidSayings, greatest, table, 3, [])
        stopped(self, InvalidMany, greatest, table, 2, [(Z, 0)])


class Wrong(unittest.TestCase):

    def test_all(self):
        wrong = {"table": WRONG_TABLES, "many": WRONG_MANY, "sayings": WRONG_SAYINGS, "lots": WRONG_FILLINGS,
                 "name": WRONG_NAMES, "one": WRONG_CLASSES}
        sayings = [(row(X, Y), 0)]
        wrongs(self, is_right, {"table": BOTH, "sayings": sayings, "lots": [[1], [2]]}, wrong)
        wrongs(self, greatest, {"table": BOTH, "many": 2, "sayings": sayings}, wrong)
        wrongs(self, is_greatest, {"table": BOTH, "many": 2, "sayings": sayings, "value": None}, wrong)
        wrongs(self, above, {"table": BOTH, "many": 2, "sayings": sayings, "lots": [[1], [2]]}, wrong)
        right = {"table": BOTH, "sayings": sayings, "lots": [[1], [2]], "name": 1, "one": 4}
        wrongs(self, growing_break, right, wrong)
        wrongs(self, is_growing_break, {**right, "value": None}, wrong)

    def test_names_from_many_on(self):
        for sayings, many in (([(Y, 0)], 2), ([(X, 0), (row(X, Z), 1)], 3), ([(word("a"), 0), (star(Y), 0)], 2)):
            for less in range(1, many):
                for function, further in ((greatest, ()), (is_greatest, ([],)), (above, ([[0]] * less,)), (above, (None,))):
                    self.assertEqual(stopped(self, InvalidMany, function, BOTH, less, sayings, *further).value, less)
                for lots in ([[]] * less, ((1,),) * less):
                    for function, further in ((is_right, ()), (growing_break, (9, 9)), (is_growing_break, (9, 9, 9))):
                        error = stopped(self, InvalidFilling, function, BOTH, sayings, lots, *further)
                        self.assertIs(error.value, lots)
            greatest(EVENS, many, [(pattern, 0) for pattern, _ in sayings])
        stopped(self, InvalidSayings, greatest, BOTH, 1, [(Y, 0), (X, 2)])
        stopped(self, InvalidTable, greatest, None, 1, [(Y, 0)])

    def test_as_many_lots(self):
        for lots in ([[0]], [[0], [0], [0]], ([1],)):
            self.assertIs(stopped(self, InvalidFilling, above, BOTH, 2, [(X, 0)], lots).value, lots)
        above(BOTH, 1, [(X, 0)], [[0]])

    def test_names_of_lots(self):
        for many in (1, 2, 3):
            lots = [[0]] * many
            growing_break(BOTH, [(X, 0)], lots, many - 1, 0)
            self.assertEqual(stopped(self, InvalidName, growing_break, BOTH, [(X, 0)], lots, many, 0).value, many)
            stopped(self, InvalidName, is_growing_break, BOTH, [(X, 0)], lots, many, 9, None)
        stopped(self, InvalidClass, is_growing_break, BOTH, [(X, 0)], [[0]], 0, 5, None)

    def test_against_the_table(self):
        one = Table([of_words(1, ["a"])])
        stopped(self, InvalidSayings, greatest, one, 1, [(word("b"), 0)])
        stopped(self, InvalidSayings, is_right, one, [(X, 1)], [[0]])
        stopped(self, InvalidFilling, is_right, one, [(X, 0)], [[3]])
        stopped(self, InvalidClass, growing_break, one, [(X, 0)], [[0]], 0, 3)


if __name__ == "__main__":
    unittest.main()
