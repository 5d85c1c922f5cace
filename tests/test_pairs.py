"""[31], [32] pairs of fronts and backs."""

import unittest
from itertools import combinations

from helpers import JUNK, stopped, wrongs
from test_lots import WRONG_LOTS
from test_machines import EVEN
from test_tables import BOTH, TABLES, WRONG_POSITIONS, WRONG_TABLES
from widefills.errors import InvalidLot, InvalidPosition, InvalidTable, TooMany
from widefills.machines import Machine
from widefills.makings import of_words
from widefills.pairs import first_pair, is_pair, last_pair, pair_over, pairs
from widefills.tables import Table, passed, product


def wheel(many, ends):
    return Table([Machine(1, [[(state + 1) % many] for state in range(many)], ends)])


# All lots but one class are backs of one class: so all lots are backs.
ALL_32, ALL_64 = wheel(5, [0, 1, 2, 3]), wheel(6, [0, 1, 2, 3, 4])
JUST_33 = Table([Machine(1, [[state + 1] for state in range(10)] + [[4]], [0, 2, 3, 4, 7, 10])])


def lots_of(table):
    classes = range(table.classes)
    return [list(lot) for many in range(len(classes) + 1) for lot in combinations(classes, many)]


def go(table, let, front, back):
    return all(product(table, near, far) in let for near in front for far in back)


def by_hand(table, position):
    """All pairs: neither lot can grow, as their words tell."""
    let, classes = passed(table, position), range(table.classes)
    found = []
    for front in lots_of(table):
        back = [far for far in classes if go(table, let, front, [far])]
        if front == [near for near in classes if go(table, let, [near], back)]:
            found.append((front, back))
    return sorted(found)


SMALL = [table for table in TABLES if table.classes <= 7]


class Pairs(unittest.TestCase):

    def test_by_hand(self):
        self.assertGreater(len(SMALL), 100)
        for table in SMALL:
            for position in range(len(table.machines())):
                self.assertEqual(pairs(table, position), by_hand(table, position))

    def test_kinds_of_values(self):
        for told in pairs(position=1, table=BOTH):
            self.assertEqual([type(told)] + [type(lot) for lot in told], [tuple, list, list])
            for lot in told:
                self.assertEqual(lot, sorted(lot))

    def test_nothing_and_everything_let(self):
        nothing, everything = Table([of_words(2, [])]), Table([Machine(2, [[0, 0]], [0])])
        self.assertEqual(pairs(nothing, 0), [([], [0]), ([0], [])])
        self.assertEqual(pairs(everything, 0), [([0], [0])])
        for table in SMALL:
            for position in range(len(table.machines())):
                told, classes = pairs(table, position), list(range(table.classes))
                self.assertEqual(len([back for _, back in told if back == classes]), 1)
                self.assertEqual(len([front for front, _ in told if front == classes]), 1)
        self.assertEqual((first_pair(nothing, 0), last_pair(nothing, 0)), (1, 0))
        self.assertEqual((first_pair(everything, 0), last_pair(everything, 0)), (0, 0))

    def test_new(self):
        told = pairs(BOTH, 0)
        seen = [lot for one in told for lot in one]
        self.assertEqual(len({id(lot) for lot in seen}), len(seen))
        wanted = by_hand(BOTH, 0)
        for lot in seen:
            lot.append(9)
        told.pop()
        pair_over(BOTH, 0, [1])[0].append(9)
        self.assertEqual(pairs(BOTH, 0), wanted)
        self.assertEqual(BOTH.words(), ["", "a", "b", "aa", "ab"])

    def test_places(self):
        for table in SMALL:
            for position in range(len(table.machines())):
                told, let = pairs(table, position), passed(table, position)
                first, last = first_pair(table, position), last_pair(table, position)
                self.assertEqual(told[first][1], let)
                self.assertIn(0, told[first][0])
                self.assertEqual(told[last][0], let)
                self.assertIn(0, told[last][1])
                self.assertEqual((type(first), type(last)), (int, int))
        self.assertEqual(first_pair(position=1, table=BOTH), pairs(BOTH, 1).index(pair_over(BOTH, 1, [0])))
        self.assertEqual(last_pair(position=1, table=BOTH), pairs(BOTH, 1).index(pair_over(BOTH, 1, [1, 3])))


class Over(unittest.TestCase):

    def test_least_front(self):
        for table in SMALL[::9]:
            for position in range(len(table.machines())):
                told = pairs(table, position)
                for lot in lots_of(table)[::3]:
                    over = [one for one in told if set(lot) <= set(one[0])]
                    least = [one for one in over if all(set(one[0]) <= set(other[0]) for other in over)]
                    self.assertEqual([pair_over(table, position, lot)], least)
                    self.assertEqual(pair_over(table, position, tuple(reversed(lot))), least[0])

    def test_kinds_of_values(self):
        over = pair_over(lot=(1,), table=BOTH, position=0)
        self.assertEqual([type(over)] + [type(lot) for lot in over], [tuple, list, list])
        lot = [4, 1]
        pair_over(BOTH, 0, lot)
        self.assertEqual(lot, [4, 1])


class IsPair(unittest.TestCase):

    def test_all_lots(self):
        for table in [small for small in SMALL if small.classes <= 4][::9]:
            for position in range(len(table.machines())):
                told = pairs(table, position)
                for front in lots_of(table):
                    for back in lots_of(table):
                        self.assertIs(is_pair(table, position, (front, back)), (front, back) in told)

    def test_whatever_sequence(self):
        even = Table([EVEN])
        for value in (([0, 1], []), ([1, 0], []), ((1, 0), ()), ((), [1, 0]), ([1], (1,))):
            self.assertIs(is_pair(even, 0, value), True)
            self.assertIs(is_pair(value=value, position=0, table=even), True)
        for front, back in pairs(BOTH, 0):
            self.assertIs(is_pair(BOTH, 0, (front[::-1], tuple(back[::-1]))), True)

    def test_no_pairs(self):
        even = Table([EVEN])
        for value in JUNK + (
                0, "", "01", [], (), [[1], [1]], ([1],), ([1], [1], [1]), ([True], [1]), ([1], [True]), ([False], [0]),
                ([1, 1], [1]), ([1], [1, 1]), ([0, 1], [2]), ([0, 1, 2], []), ([1], 1), (1, 1), ("1", "1"), ([1], None),
                ({1}, {1}), ({1: 1}, [1]), ([[1]], [1]), ([-1], [1]), ([1], [0]), ([0], [1]), ([], []),
                ([0, 1], [0, 1]), ([0], [0, 1]), ([], [0]), (["1"], ["1"]), ((1,), "1")):
            self.assertIs(is_pair(even, 0, value), False, value)

    def test_one_class_more_or_fewer(self):
        for table in SMALL[::9]:
            for front, back in pairs(table, 0):
                self.assertIs(is_pair(table, 0, (front, back)), True)
                for one in range(table.classes):
                    changed = sorted(set(front) ^ {one})
                    self.assertIs(is_pair(table, 0, (changed, back)), False)
                    changed = sorted(set(back) ^ {one})
                    self.assertIs(is_pair(table, 0, (front, changed)), False)
                    self.assertIs(is_pair(table, 0, (front + [one], back)), False)


class TooManyPairs(unittest.TestCase):

    def test_at_the_bound(self):
        self.assertEqual(len(pairs(ALL_32, 0)), 32)
        self.assertEqual((first_pair(ALL_32, 0), last_pair(ALL_32, 0)),
                         (pairs(ALL_32, 0).index(([0], [0, 1, 2, 3])), pairs(ALL_32, 0).index(([0, 1, 2, 3], [0]))))
        self.assertEqual(len(by_hand(JUST_33, 0)), 33)
        for table in (JUST_33, ALL_64):
            for function in (pairs, first_pair, last_pair):
                error = stopped(self, TooMany, function, table, 0)
                self.assertEqual((error.what, error.limit), ("pairs", 32))
                stopped(self, TooMany, function, position=0, table=table)

    def test_these_raise_none(self):
        for table in (JUST_33, ALL_64):
            for front, back in by_hand(table, 0):
                self.assertIs(is_pair(table, 0, (front, back)), True)
                self.assertEqual(pair_over(table, 0, front), (front, back))
            self.assertIs(is_pair(table, 0, ([0], [0])), False)

    def test_behind_all_else(self):
        for function in (pairs, first_pair, last_pair):
            stopped(self, InvalidPosition, function, ALL_64, 1)
            stopped(self, InvalidTable, function, None, 0)
        stopped(self, InvalidLot, pair_over, ALL_64, 0, [6])


class Wrong(unittest.TestCase):

    def test_all(self):
        wrong = {"table": WRONG_TABLES, "position": WRONG_POSITIONS, "lot": WRONG_LOTS}
        for function in (pairs, first_pair, last_pair):
            wrongs(self, function, {"table": BOTH, "position": 1}, wrong)
        wrongs(self, is_pair, {"table": BOTH, "position": 1, "value": ([], [])}, wrong)
        wrongs(self, pair_over, {"table": BOTH, "position": 1, "lot": [1]}, wrong)


if __name__ == "__main__":
    unittest.main()
