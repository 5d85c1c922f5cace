"""[73], [74], [75] the one machine of pairs, maps into it, its parts."""

import unittest
from itertools import combinations, permutations, product as all_of

from helpers import JUNK, all_words, chain, stopped, wrongs
from test_guessers import CASES, PICK, WRONG_GUESSERS, cycles, far_from_the_end, parts_of, ways
from test_machines import EVEN
from test_middles import EVENS, positions
from test_pairs import ALL_32, ALL_64, JUST_33, SMALL, by_hand
from test_tables import BOTH, WRONG_POSITIONS, WRONG_TABLES
from widefills.errors import (InvalidGuesser, InvalidPlaces, InvalidPosition, NotOfUse, NotTold, TooMany,
                              UnlikeLetters)
from widefills.guessers import Guesser, is_of_use, of_use, tells
from widefills.machines import Machine, lets
from widefills.makings import is_within, of_words
from widefills.pairs import pair_over, pairs
from widefills.tables import Table, class_of, product
from widefills.universals import is_map, map_to, part, universal

TWO = Guesser(2, [[[1], [0]], [[0], [1]]], [0], [0])
# Of the table EVENS, of four pairs.
WRONG_PLACES = (InvalidPlaces, JUNK + (
    0, "", "0", [4], [0, 4], [0, 0], (1, 2, 1), [True], [False], [0, True], [None], ["0"], [[0]], [(0,)], [-1],
    [10 ** 30], {0: 1}, [0, 1, 2, 3, 0], ([], [0]), [([], [0, 1])], EVEN))
SOME = positions(SMALL[::4])


def one_by_hand(table, position):
    """Letters, steps, begins and ends of the one machine, put together by products of classes."""
    told = by_hand(table, position) if table.classes <= 6 else pairs(table, position)
    letters = [class_of(table, sign) for sign in "abc"[:table.letters]]
    steps = [[[at for at, far in enumerate(told) if all(product(table, one, sign) in far[0] for one in near[0])]
              for sign in letters] for near in told]
    return (table.letters, steps, [at for at, pair in enumerate(told) if 0 in pair[0]],
            [at for at, pair in enumerate(told) if 0 in pair[1]])


def kept(parts, places):
    """The parts of a guesser with these states alone, in their sequence."""
    letters, steps, begins, ends = parts
    numbers = {place: at for at, place in enumerate(sorted(places))}
    return (letters, [[[numbers[after] for after in lot if after in numbers] for lot in steps[place]]
                      for place in sorted(places)],
            [numbers[place] for place in begins if place in numbers],
            [numbers[place] for place in ends if place in numbers])


def is_map_by_hand(one, parts, value):
    _, steps, begins, ends = parts
    return (all(value[state] in one[2] for state in begins) and all(value[state] in one[3] for state in ends)
            and all(value[after] in one[1][value[state]][letter] for state, row in enumerate(steps)
                    for letter, lot in enumerate(row) for after in lot))


class Universal(unittest.TestCase):

    def test_by_hand(self):
        for table, position in positions(SMALL):
            self.assertEqual(parts_of(universal(table, position)), one_by_hand(table, position))

    def test_steps_go_by_words(self):
        for position in (0, 1):
            told, one, words = pairs(BOTH, position), universal(BOTH, position), BOTH.words()
            for near, (front, _) in enumerate(told):
                for letter, sign in enumerate("ab"):
                    after = {class_of(BOTH, words[place] + sign) for place in front}
                    self.assertEqual(one.steps()[near][letter], [far for far, pair in enumerate(told) if after <= set(pair[0])])

    def test_tells_the_machine(self):
        for table, position in positions(SMALL):
            self.assertEqual(tells(universal(table, position)), table.machines()[position])
        self.assertEqual(tells(universal(position=0, table=ALL_32)), ALL_32.machines()[0])

    def test_states_are_pairs(self):
        for table, position in SOME:
            self.assertEqual(universal(table, position).states, len(pairs(table, position)))
        self.assertEqual(universal(ALL_32, 0).states, 32)

    def test_least_and_greatest_pairs(self):
        # With an empty front each letter goes to all pairs, to a front of everything one goes from all pairs.
        for table, position in SOME:
            told, one = pairs(table, position), universal(table, position)
            for at, (front, _) in enumerate(told):
                if not front:
                    self.assertEqual(one.steps()[at], [list(range(len(told)))] * table.letters)
                if len(front) == table.classes:
                    self.assertTrue(all(at in lot for row in one.steps() for lot in row))

    def test_begins_and_ends(self):
        one = universal(EVENS, 0)
        self.assertEqual((one.letters, one.begins(), one.ends()), (2, [1, 2], [0, 1]))
        nothing, everything = Table([of_words(1, [])]), Table([Machine(1, [[0]], [0])])
        self.assertEqual(parts_of(universal(nothing, 0)), (1, [[[0, 1]], [[1]]], [1], [0]))
        self.assertEqual(parts_of(universal(everything, 0)), (1, [[[0]]], [0], [0]))

    def test_new(self):
        one = universal(EVENS, 0)
        one.steps()[0][0].clear()
        self.assertEqual(universal(EVENS, 0), one)


class Parts(unittest.TestCase):

    def test_by_hand(self):
        for table, position in SOME:
            one = one_by_hand(table, position)
            for many in range(len(one[1]) + 1):
                for places in list(combinations(range(len(one[1])), many))[:12]:
                    self.assertEqual(parts_of(part(table, position, list(places))), kept(one, places))

    def test_whatever_sequence(self):
        for places in permutations([0, 1, 3]):
            self.assertEqual(part(EVENS, 0, places), part(EVENS, 0, [0, 1, 3]))
            self.assertEqual(part(places=list(places), table=EVENS, position=0), part(EVENS, 0, [0, 1, 3]))
        self.assertEqual(part(EVENS, 0, (3, 1)), TWO)
        self.assertEqual(part(EVENS, 0, [2]), Guesser(2, [[[0], [0]]], [0], []))

    def test_none_and_all(self):
        for table, position in SOME:
            self.assertEqual(part(table, position, []), Guesser(table.letters, [], [], []))
            self.assertEqual(part(table, position, ()), Guesser(table.letters, [], [], []))
            everything = list(range(len(pairs(table, position))))
            self.assertEqual(part(table, position, everything[::-1]), universal(table, position))

    def test_tells_no_more(self):
        for table, position in SOME:
            many = len(pairs(table, position))
            for places in list(combinations(range(many), max(many - 1, 0))) + [range(0, many, 2)]:
                self.assertTrue(is_within(tells(part(table, position, list(places))), table.machines()[position]))

    def test_what_is_passed_stays(self):
        places = [3, 1]
        part(EVENS, 0, places)
        self.assertEqual(places, [3, 1])


class MapTo(unittest.TestCase):

    def told(self):
        """(table of its machine alone, guesser): all states are of use."""
        found = []
        for parts in CASES:
            guesser = of_use(Guesser(*parts))
            try:
                table = Table([tells(guesser)])
                pairs(table, 0)
            except TooMany:
                continue
            found.append((table, guesser))
        return found

    def test_maps(self):
        told = self.told()
        self.assertGreater(len(told), 60)
        for table, guesser in told:
            value = map_to(table, 0, guesser)
            self.assertEqual([type(value)] + [type(place) for place in value], [list] + [int] * guesser.states)
            self.assertTrue(is_map_by_hand(one_by_hand(table, 0), parts_of(guesser), value))
            self.assertIs(is_map(table, 0, guesser, value), True)

    def test_over_the_pasts(self):
        for table, guesser in self.told():
            past, told = [set() for _ in range(guesser.states)], pairs(table, 0)
            for word in all_words(table.letters, {1: 12, 2: 7, 3: 5}[table.letters]):
                for state in ways(guesser.steps(), guesser.begins(), word):
                    past[state].add(class_of(table, word))
            wanted = [told.index(pair_over(table, 0, sorted(lot))) for lot in past]
            self.assertEqual(map_to(table, 0, guesser), wanted)

    def test_by_hand(self):
        self.assertEqual(map_to(EVENS, 0, TWO), [1, 3])
        self.assertEqual(map_to(guesser=Guesser(2, TWO.steps(), [1], [1]), position=0, table=EVENS), [3, 1])
        # The machine that lets nothing is told by no states.
        self.assertEqual(map_to(Table([of_words(3, [])]), 0, Guesser(3, [], [], [])), [])
        # Like pasts are over one pair.
        self.assertEqual(map_to(EVENS, 0, Guesser(2, [[[1], [0, 2]], [[0, 2], [1]], [[1], [0, 2]]], [0, 2], [0])),
                         [1, 3, 1])

    def test_of_two_machines(self):
        for position, machine in enumerate(BOTH.machines()):
            steps = [[[after] for after in row] for row in machine.steps()]
            guesser = Guesser(2, steps, [0], machine.ends())
            value = map_to(BOTH, position, guesser)
            self.assertTrue(is_map_by_hand(one_by_hand(BOTH, position), parts_of(guesser), value))
            stopped(self, NotTold, map_to, BOTH, 1 - position, guesser)

    def test_not_told(self):
        for guesser in (Guesser(2, [], [], []), Guesser(2, [[[0], [0]]], [0], [0]), Guesser(2, TWO.steps(), [0], [1]),
                        Guesser(2, TWO.steps(), [0, 1], [0]), Guesser(2, [[[1], [0]], [[], [1]]], [0], [0]), PICK):
            stopped(self, NotTold, map_to, EVENS, 0, guesser)
            stopped(self, NotTold, map_to, guesser=guesser, table=EVENS, position=0)

    def test_told_by_too_many_states_is_not_told(self):
        stopped(self, NotTold, map_to, EVENS, 0, far_from_the_end(39))
        stopped(self, NotTold, map_to, Table([chain(3)]), 0, cycles(5, 13))

    def test_not_of_use(self):
        for begins, ends in (([0], [0]), ([0, 2], [0]), ([0], [0, 2])):
            guesser = Guesser(2, TWO.steps() + [[[], []]], begins, ends)
            if begins == [0, 2] or ends == [0, 2] or not is_of_use(guesser):
                stopped(self, NotOfUse, map_to, EVENS, 0, guesser)

    def test_sequence_of_errors(self):
        useless = Guesser(2, [[[], []]], [], [])
        stopped(self, NotTold, map_to, EVENS, 0, useless)
        stopped(self, NotOfUse, map_to, Table([of_words(2, [])]), 0, useless)
        for guesser in (Guesser(1, [], [], []), Guesser(3, [[[], [], []]], [], []), Guesser(1, [[[0]]], [0], [0])):
            stopped(self, UnlikeLetters, map_to, EVENS, 0, guesser)
            stopped(self, UnlikeLetters, is_map, EVENS, 0, guesser, [])
            stopped(self, InvalidPosition, map_to, EVENS, 1, guesser)
        stopped(self, InvalidGuesser, map_to, EVENS, 0, EVEN)


class IsMap(unittest.TestCase):

    def test_by_hand(self):
        seen = []
        for table, position in positions(SMALL[::9]):
            one = one_by_hand(table, position)
            for parts in CASES:
                if parts[0] == table.letters and len(one[1]) ** len(parts[1]) <= 200:
                    for value in all_of(range(len(one[1])), repeat=len(parts[1])):
                        right = is_map_by_hand(one, parts, value)
                        self.assertIs(is_map(table, position, Guesser(*parts), list(value)), right)
                        self.assertIs(is_map(table, position, Guesser(*parts), value), right)
                        seen.append(right)
        self.assertGreater(seen.count(True), 100)
        self.assertGreater(seen.count(False), 100)

    def test_who_maps_tells_no_more(self):
        for parts in CASES:
            if parts[0] == 2 and len(parts[1]) <= 3:
                for value in all_of(range(4), repeat=len(parts[1])):
                    if is_map(EVENS, 0, Guesser(*parts), value):
                        self.assertTrue(is_within(tells(Guesser(*parts)), EVEN))

    def test_each_of_begins_ends_and_steps_counts(self):
        for guesser, value in ((Guesser(2, [[[], []]], [0], []), [0]), (Guesser(2, [[[], []]], [], [0]), [2]),
                               (Guesser(2, [[[0], []]], [], []), [1]), (Guesser(2, [[[], []], [[], [0]]], [], []), [1, 3])):
            self.assertIs(is_map(EVENS, 0, guesser, value), False)
            self.assertIs(is_map(EVENS, 0, Guesser(2, [[[], []]] * guesser.states, [], []), value), True)

    def test_any_value(self):
        self.assertIs(is_map(EVENS, 0, TWO, [1, 3]), True)
        self.assertIs(is_map(EVENS, 0, TWO, (1, 3)), True)
        self.assertIs(is_map(value=[1, 3], guesser=TWO, position=0, table=EVENS), True)
        for value in JUNK + (0, 1, "", "13", [], (), [1], [1, 3, 1], [3, 1], [1, 1], [True, 3], [1, None], [1, [3]],
                             [1, "3"], [[1, 3]], [1, 4], [1, -1], [1, 10 ** 30], {1: 1, 3: 3}, TWO):
            self.assertIs(is_map(EVENS, 0, TWO, value), False, value)

    def test_without_states(self):
        none = Guesser(2, [], [], [])
        for value in ([], ()):
            self.assertIs(is_map(EVENS, 0, none, value), True)
        for value in JUNK + ("", 0, [0], [[]], none):
            self.assertIs(is_map(EVENS, 0, none, value), False)

    def test_whatever_it_tells(self):
        # Neither what is told nor use matters.
        self.assertIs(is_map(EVENS, 0, Guesser(2, [[[], []]], [], []), [2]), True)
        self.assertIs(is_map(EVENS, 0, far_from_the_end(2), [2, 2, 2]), False)
        self.assertFalse(lets(EVEN, "a"))


class TooManyPairs(unittest.TestCase):

    def test_all(self):
        for table in (JUST_33, ALL_64):
            machine = table.machines()[0]
            guesser = Guesser(1, [[[after] for after in row] for row in machine.steps()], [0], machine.ends())
            for function, more in ((universal, []), (part, [[]]), (map_to, [guesser]), (is_map, [guesser, []])):
                error = stopped(self, TooMany, function, table, 0, *more)
                self.assertEqual((error.what, error.limit), ("pairs", 32))

    def test_ahead_of_places(self):
        stopped(self, TooMany, part, ALL_64, 0, [99])
        stopped(self, InvalidPosition, part, ALL_64, 1, [99])
        self.assertEqual(part(ALL_32, 0, list(range(32))), universal(ALL_32, 0))
        stopped(self, InvalidPlaces, part, ALL_32, 0, [32])

    def test_behind_all_else(self):
        stopped(self, InvalidPosition, universal, ALL_64, 1)
        stopped(self, UnlikeLetters, map_to, ALL_64, 0, TWO)
        stopped(self, UnlikeLetters, is_map, ALL_64, 0, TWO, None)
        stopped(self, NotTold, map_to, ALL_64, 0, Guesser(1, [], [], []))
        machine = ALL_64.machines()[0]
        steps = [[[after] for after in row] for row in machine.steps()] + [[[]]]
        stopped(self, NotOfUse, map_to, ALL_64, 0, Guesser(1, steps, [0], machine.ends()))


class Wrong(unittest.TestCase):

    def test_all(self):
        wrong = {"table": WRONG_TABLES, "position": WRONG_POSITIONS, "guesser": WRONG_GUESSERS, "places": WRONG_PLACES}
        wrongs(self, universal, {"table": EVENS, "position": 0}, wrong)
        wrongs(self, part, {"table": EVENS, "position": 0, "places": [1]}, wrong)
        wrongs(self, map_to, {"table": EVENS, "position": 0, "guesser": TWO}, wrong)
        wrongs(self, is_map, {"table": EVENS, "position": 0, "guesser": TWO, "value": [1, 3]}, wrong)


if __name__ == "__main__":
    unittest.main()
