"""[33], [34] middles of pairs, greatest lists of lots one behind another, ways."""

import unittest
from itertools import product as all_of

from helpers import JUNK, stopped, wrongs
from test_machines import EVEN
from test_pairs import ALL_32, ALL_64, JUST_33, SMALL, lots_of
from test_tables import BOTH, LAST, WRONG_POSITIONS, WRONG_TABLES
from widefills.errors import InvalidFilling, InvalidMany, InvalidPair, InvalidPosition, InvalidTable, TooMany
from widefills.lots import behind_lots
from widefills.makings import of_words
from widefills.middles import is_way, joined_fillings, middle, middles, way_of
from widefills.pairs import first_pair, last_pair, pairs
from widefills.tables import Table, passed, product

# Of the table BOTH, of five classes.
WRONG_FILLINGS = (InvalidFilling, JUNK + (
    0, "", [], (), [0], [[0]] * 4, [[5]], [[0], [0, 5]], [[0, 0]], [[True]], [[False]], [[0], None], ["0"], "0",
    [[[0]]], [[-1]], [[10 ** 30]], {0: [0]}, [(0,), (1, 1)], [[0], [1], [2], [3]], EVEN))
WRONG_MANY = (InvalidMany, JUNK + (0, 4, "", "1", [], [1], (1,), EVEN))
# The machines BOTH consists of have four pairs each.
WRONG_PAIRS = (InvalidPair, JUNK + (99, 32, "", "0", [], [0], (0,), ([], [0]), EVEN))
EVENS = Table([EVEN])
TINY = [table for table in SMALL if table.classes <= 3]


def positions(tables):
    return [(table, position) for table in tables for position in range(len(table.machines()))]


def class_behind(table, *classes):
    """The class of words of these classes, one behind the other."""
    found = 0
    for one in classes:
        found = product(table, found, one)
    return found


def is_right_by_hand(table, position, lots):
    let = passed(table, position)
    return all(class_behind(table, *classes) in let for classes in all_of(*lots))


def greatest_by_hand(table, position, many):
    """All right lists to which no class can be added to one lot alone, of all lists of lots."""
    lots = [tuple(lot) for lot in lots_of(table)]
    right = {told for told in all_of(lots, repeat=many) if is_right_by_hand(table, position, told)}
    found = []
    for told in right:
        grown = [told[:at] + (tuple(sorted((*lot, one))),) + told[at + 1:]
                 for at, lot in enumerate(told) for one in range(table.classes) if one not in lot]
        if not any(more in right for more in grown):
            found.append([list(lot) for lot in told])
    return sorted(found)


class Middles(unittest.TestCase):

    def test_by_hand(self):
        """Products put together by hand: what can stand between each of the front and each of the back."""
        for table, position in positions(SMALL[::2]):
            told, let = pairs(table, position), passed(table, position)
            every = middles(table, position)
            for near, (front, _) in enumerate(told):
                for far, (_, back) in enumerate(told):
                    wanted = [one for one in range(table.classes)
                              if all(class_behind(table, ahead, one, behind) in let
                                     for ahead in front for behind in back)]
                    self.assertEqual(every[near][far], wanted)
            self.assertEqual((len(every), {len(row) for row in every}), (len(told), {len(told)}))

    def test_middle_is_of_middles(self):
        for table, position in positions(SMALL[::9]):
            every = middles(table, position)
            for near, far in all_of(range(len(every)), repeat=2):
                self.assertEqual(middle(table, position, near, far), every[near][far])
        self.assertEqual(middle(far=3, near=1, position=0, table=EVENS), [1])
        self.assertEqual(middles(position=0, table=EVENS)[1], [[], [0], [0, 1], [1]])

    def test_facts(self):
        for table, position in positions(SMALL[::4]):
            told, every = pairs(table, position), middles(table, position)
            places = range(len(told))
            for near, far in all_of(places, repeat=2):
                led = behind_lots(table, told[near][0], every[near][far])
                self.assertTrue(set(led) <= set(told[far][0]))
                for between in places:
                    led = behind_lots(table, every[near][between], every[between][far])
                    self.assertTrue(set(led) <= set(every[near][far]))
            first, last = first_pair(table, position), last_pair(table, position)
            self.assertEqual(every[first][last], passed(table, position))

    def test_new(self):
        wanted = middles(EVENS, 0)
        told = middles(EVENS, 0)
        seen = [told] + told + [lot for row in told for lot in row]
        self.assertEqual(len({id(one) for one in seen}), len(seen))
        for one in seen[::-1]:
            self.assertIs(type(one), list)
            one.append(9)
        middle(EVENS, 0, 1, 3).append(9)
        self.assertEqual((middles(EVENS, 0), middle(EVENS, 0, 1, 3)), (wanted, [1]))


class Joined(unittest.TestCase):

    def test_one_lot(self):
        for table, position in positions(SMALL):
            self.assertEqual(joined_fillings(table, position, 1), [[passed(table, position)]])

    def test_two_lots(self):
        for table, position in positions(SMALL):
            wanted = [[front, back] for front, back in pairs(table, position)]
            self.assertEqual(joined_fillings(table, position, 2), wanted)

    def test_all_lists_of_lots(self):
        self.assertGreater(len(TINY), 20)
        for table, position in positions(TINY):
            for many in (1, 2, 3):
                self.assertEqual(joined_fillings(table, position, many), greatest_by_hand(table, position, many))
        for table, position in positions([table for table in SMALL if table.classes == 4][::5]):
            self.assertEqual(joined_fillings(table, position, 2), greatest_by_hand(table, position, 2))
            self.assertEqual(joined_fillings(table, position, 3), greatest_by_hand(table, position, 3))

    def test_not_each_way_is_greatest(self):
        """Of three lots the middles of some way lie within others."""
        every, told = middles(EVENS, 0), joined_fillings(EVENS, 0, 3)
        first, last = first_pair(EVENS, 0), last_pair(EVENS, 0)
        ways = [[every[first][near], every[near][far], every[far][last]] for near, far in all_of(range(4), repeat=2)]
        self.assertTrue(all(lots in ways for lots in told))
        self.assertTrue(any(lots not in told for lots in ways))

    def test_sorted_each_once_and_new(self):
        for table, position in positions(SMALL[::7]):
            told = joined_fillings(table, position, 3)
            self.assertEqual(told, sorted(told))
            self.assertEqual(len({str(lots) for lots in told}), len(told))
            seen = [told] + told + [lot for lots in told for lot in lots]
            self.assertEqual(len({id(one) for one in seen}), len(seen))
            self.assertEqual({type(one) for one in seen}, {list})
        told = joined_fillings(many=2, position=0, table=EVENS)
        told[0][0].append(9)
        self.assertEqual(joined_fillings(EVENS, 0, 2)[0], [[], [0, 1]])

    def test_nothing_and_everything_let(self):
        nothing, everything = Table([of_words(2, [])]), Table([of_words(1, ["", "a"])])
        self.assertEqual(joined_fillings(nothing, 0, 1), [[[]]])
        self.assertEqual(joined_fillings(nothing, 0, 3), [[[], [0], [0]], [[0], [], [0]], [[0], [0], []]])
        self.assertEqual(joined_fillings(everything, 0, 1), [[[0, 1]]])


class Ways(unittest.TestCase):

    def test_all_lists_of_lots(self):
        for table, position in positions(TINY):
            every = lots_of(table)
            for lots in [*all_of(every, repeat=1), *all_of(every, repeat=2), *list(all_of(every, repeat=3))[::5]]:
                self.check(table, position, lots)
        for table, position in positions([table for table in SMALL if table.classes > 3])[::3]:
            for lots in list(all_of(lots_of(table), repeat=2))[::41] + list(all_of(lots_of(table)[:9], repeat=3))[::7]:
                self.check(table, position, lots)

    def check(self, table, position, lots):
        way = way_of(table, position, lots)
        if is_right_by_hand(table, position, lots):
            self.assertIs(type(way), list)
            self.assertIs(is_way(table, position, lots, way), True)
        else:
            self.assertIsNone(way)

    def test_is_way_by_hand(self):
        for table, position in positions(TINY[::13]):
            every, places = middles(table, position), range(len(pairs(table, position)))
            first, last = first_pair(table, position), last_pair(table, position)
            for many in (1, 2, 3):
                for lots in list(all_of(lots_of(table), repeat=many))[::7 ** (many - 1)]:
                    for way in all_of(places, repeat=many + 1):
                        wanted = way[0] == first and way[-1] == last and all(
                            set(lot) <= set(every[near][far]) for lot, near, far in zip(lots, way, way[1:]))
                        self.assertIs(is_way(table, position, lots, way), wanted)
                        self.assertIs(is_way(table, position, list(lots), list(way)), wanted)

    def test_an_empty_lot_among_them(self):
        everything = [0, 1]
        for lots in ([[]], [[], everything], [everything, []], [everything, [], everything], [[], [], everything]):
            way = way_of(EVENS, 0, lots)
            self.assertIs(is_way(EVENS, 0, lots, way), True)
        self.assertIsNone(way_of(EVENS, 0, [everything]))
        nothing = Table([of_words(2, [])])
        self.assertEqual(way_of(nothing, 0, [[]]), [first_pair(nothing, 0), last_pair(nothing, 0)])
        self.assertIsNone(way_of(nothing, 0, [[0], [0]]))

    def test_any_value(self):
        lots = [[1], [1]]
        for value in ([1, 3, 1], (1, 3, 1)):
            self.assertIs(is_way(EVENS, 0, lots, value), True)
            self.assertIs(is_way(value=value, lots=((1,), (1,)), position=0, table=EVENS), True)
        for value in JUNK + (
                0, "", "131", [], (), [1, 3], [1, 3, 1, 1], [3, 1], [True, 3, 1], [1, 3, True], (1, 3, True), [1, 4, 1],
                [1, -1, 1], [1, 1, 1], [1, 0, 1], [1, 2, 1], [3, 3, 1], [1, 3, 3], [1, None, 1], [1, "3", 1], ["1", 3, 1],
                [[1, 3, 1]], [[1], [3], [1]], {1: 1, 3: 3}, {1, 3}, [1, 3, 10 ** 30], [([0], [0]), ([1], [1]), 1]):
            self.assertIs(is_way(EVENS, 0, lots, value), False, value)

    def test_lots_in_any_sequence(self):
        self.assertEqual(way_of(BOTH, 0, ((3, 0), (2,))), way_of(BOTH, 0, [[0, 3], [2]]))
        lots = ((4, 1), [1, 4])
        way = way_of(lots=lots, position=0, table=BOTH)
        self.assertIs(is_way(BOTH, 0, [[1, 4], [4, 1]], way), True)
        self.assertEqual(lots, ((4, 1), [1, 4]))

    def test_new(self):
        told = way_of(EVENS, 0, [[1], [1]])
        told.append(9)
        self.assertEqual(way_of(EVENS, 0, [[1], [1]]), [1, 3, 1])


class TooManyPairs(unittest.TestCase):

    def test_at_the_bound(self):
        self.assertEqual(len(middles(ALL_32, 0)), 32)
        self.assertEqual(middle(ALL_32, 0, 31, 31), middles(ALL_32, 0)[31][31])
        self.assertEqual(len(joined_fillings(ALL_32, 0, 2)), 32)
        self.assertIs(is_way(ALL_32, 0, [[0], [1]], way_of(ALL_32, 0, [[0], [1]])), True)
        for table in (JUST_33, ALL_64):
            for function, further in ((middle, (0, 0)), (middles, ()), (joined_fillings, (1,)), (way_of, ([[0]],)),
                                      (is_way, ([[0]], None))):
                error = stopped(self, TooMany, function, table, 0, *further)
                self.assertEqual((error.what, error.limit), ("pairs", 32))

    def test_ahead_of_near_and_far_alone(self):
        """Behind all else, but ahead of what is told of near, far."""
        for near, far in all_of((0, 99, None, True), repeat=2):
            stopped(self, TooMany, middle, ALL_64, 0, near, far)
            stopped(self, InvalidPosition, middle, ALL_64, 1, near, far)
        for function, further, error in ((joined_fillings, (0,), InvalidMany), (way_of, ([],), InvalidFilling),
                                         (way_of, ([[6]],), InvalidFilling), (is_way, ([[6]], []), InvalidFilling)):
            stopped(self, error, function, ALL_64, 0, *further)
            stopped(self, InvalidPosition, function, ALL_64, 1, *further)
            stopped(self, InvalidTable, function, None, 1, *further)


class Wrong(unittest.TestCase):

    def test_all(self):
        wrong = {"table": WRONG_TABLES, "position": WRONG_POSITIONS, "near": WRONG_PAIRS, "far": WRONG_PAIRS,
                 "many": WRONG_MANY, "lots": WRONG_FILLINGS}
        wrongs(self, middle, {"table": BOTH, "position": 1, "near": 0, "far": 1}, wrong)
        wrongs(self, middles, {"table": BOTH, "position": 1}, wrong)
        wrongs(self, joined_fillings, {"table": BOTH, "position": 1, "many": 3}, wrong)
        wrongs(self, way_of, {"table": BOTH, "position": 1, "lots": [[1], [2]]}, wrong)
        wrongs(self, is_way, {"table": BOTH, "position": 1, "lots": [[1], [2]], "value": []}, wrong)

    def test_places_of_this_machine(self):
        for position in (0, 1):
            many = len(pairs(BOTH, position))
            middle(BOTH, position, many - 1, many - 1)
            self.assertEqual(stopped(self, InvalidPair, middle, BOTH, position, many, 0).value, many)
            self.assertEqual(stopped(self, InvalidPair, middle, BOTH, position, 0, many).value, many)

    def test_classes_of_this_table(self):
        last = Table([LAST])
        stopped(self, InvalidFilling, way_of, last, 0, [[3]])
        self.assertIsNotNone(way_of(last, 0, [[1], [1]]))


if __name__ == "__main__":
    unittest.main()
