"""[75] the fewest states of a guesser, and what parts lose."""

import unittest
from itertools import combinations, product as all_of

from helpers import all_words, chain, stopped, wrongs
from test_machines import EVEN
from test_middles import EVENS, positions
from test_pairs import ALL_32, ALL_64, JUST_33, SMALL, wheel
from test_tables import WRONG_POSITIONS, WRONG_TABLES
from test_universals import WRONG_PLACES
from widefills.errors import InvalidPlaces, InvalidPosition, InvalidTable, TooMany
from widefills.fewest import fewest, fewest_places, least_guesser, lost_by
from widefills.guessers import Guesser, is_of_use, tells
from widefills.machines import Machine, lets, words_of
from widefills.makings import behind, of_words, parting
from widefills.pairs import pairs
from widefills.tables import Table
from widefills.universals import map_to, part, universal

SOME = [(table, position) for table, position in positions(SMALL[::3]) if len(pairs(table, position)) <= 7]


def turned(machine):
    """The Machine of all words read from behind."""
    steps = [[[] for _ in range(machine.letters)] for _ in range(machine.states)]
    for state, row in enumerate(machine.steps()):
        for letter, after in enumerate(row):
            steps[after][letter].append(state)
    return tells(Guesser(machine.letters, steps, machine.ends(), [0]))


def exchanged(machine):
    """The Machine with its letters in the other sequence."""
    return Machine(machine.letters, [row[::-1] for row in machine.steps()], machine.ends())


class Fewest(unittest.TestCase):

    def test_all_places_gone_through(self):
        self.assertGreater(len(SOME), 60)
        sizes = []
        for table, position in SOME:
            machine, many = table.machines()[position], len(pairs(table, position))
            found = []
            for size in range(many + 1):
                found = [list(places) for places in combinations(range(many), size)
                         if tells(part(table, position, places)) == machine]
                if found:
                    break
            told = fewest(table, position)
            self.assertEqual((type(told), told), (int, len(found[0])))
            self.assertEqual(fewest_places(table, position), sorted(found))
            sizes.append(told)
        self.assertGreater(len(set(sizes)), 3)

    def test_least_guesser(self):
        for table, position in SOME:
            guesser, machine = least_guesser(table, position), table.machines()[position]
            self.assertEqual(guesser.states, fewest(table, position))
            self.assertEqual(guesser.letters, table.letters)
            self.assertIs(is_of_use(guesser), True)
            self.assertEqual(tells(guesser), machine)
            self.assertEqual(len(set(map_to(table, position, guesser))), guesser.states)

    def test_no_guesser_has_fewer(self):
        """All guessers of one and two states over one letter, of one over two letters."""
        told = []
        for letters, states in ((1, 0), (2, 0), (1, 1), (2, 1), (1, 2)):
            lots = [[state for state in range(states) if (mask >> state) & 1] for mask in range(1 << states)]
            for steps in all_of(all_of(lots, repeat=letters), repeat=states):
                for begins in lots:
                    for ends in lots:
                        told.append((tells(Guesser(letters, steps, begins, ends)), states))
        for table, position in SOME:
            found = [states for machine, states in told if machine == table.machines()[position]]
            known = 2 if table.letters == 1 else 1 if table.letters == 2 else -1
            right = fewest(table, position)
            if right <= known:
                self.assertEqual(min(found), right)
            else:
                self.assertEqual(found, [])

    def test_fewer_than_of_machines(self):
        # Words whose sign three places from behind is a: eight states of a machine, four of a guesser.
        everything, letter = Machine(2, [[0, 0]], [0]), of_words(2, ["a", "b"])
        far = behind(everything, behind(of_words(2, ["a"]), letter))
        self.assertEqual((far.states, fewest(Table([far]), 0)), (4, 3))

    def test_by_hand(self):
        self.assertEqual((fewest(EVENS, 0), fewest_places(EVENS, 0)), (2, [[1, 3]]))
        self.assertEqual(least_guesser(EVENS, 0), part(EVENS, 0, [1, 3]))
        nothing, everything = Table([of_words(3, [])]), Table([Machine(3, [[0, 0, 0]], [0])])
        self.assertEqual((fewest(nothing, 0), fewest_places(nothing, 0)), (0, [[]]))
        self.assertEqual(least_guesser(table=nothing, position=0), Guesser(3, [], [], []))
        self.assertEqual((fewest(everything, 0), fewest_places(everything, 0)), (1, [[0]]))
        for many in range(1, 11):
            # All of chain's words have all its states' signs: none of them can be left out.
            self.assertEqual(fewest(position=0, table=Table([chain(many)])), many)
        for many in (1, 2, 3):
            self.assertEqual(fewest(wheel(many, [0]), 0), many)

    def test_several_in_their_sequence(self):
        self.assertEqual(fewest_places(wheel(3, [1, 2]), 0), [[1, 5, 7], [2, 4, 6]])

    def test_turned_and_exchanged(self):
        for table, position in SOME:
            machine = table.machines()[position]
            for other in (turned(machine), exchanged(machine)):
                try:
                    second = Table([other])
                except TooMany:
                    continue
                self.assertEqual(fewest(second, 0), fewest(table, position))

    def test_kinds_of_values(self):
        for table, position in SOME[::5]:
            told = fewest_places(table=table, position=position)
            self.assertIs(type(told), list)
            self.assertEqual(told, sorted(told))
            for places in told:
                self.assertIs(type(places), list)
                self.assertEqual(places, sorted(places))
            for places in told:
                places.append(9)
            told.clear()
            self.assertTrue(all(9 not in places for places in fewest_places(table, position)))


class LostBy(unittest.TestCase):

    def test_by_hand(self):
        for table, position in SOME:
            machine, many = table.machines()[position], len(pairs(table, position))
            for size in range(many + 1):
                for places in list(combinations(range(many), size))[:6]:
                    wanted = parting(machine, tells(part(table, position, places)))
                    self.assertEqual(lost_by(table, position, list(places)), wanted)
                    self.assertEqual(lost_by(table, position, places[::-1]), wanted)

    def test_first_one(self):
        for table, position in SOME[::3]:
            machine, many = table.machines()[position], len(pairs(table, position))
            for places in combinations(range(many), max(0, many - 1)):
                told, word = tells(part(table, position, places)), lost_by(table, position, places)
                if word is not None and len(word) <= 5:
                    ahead = all_words(table.letters, len(word))
                    lost = [one for one in ahead if lets(machine, one) and not lets(told, one)]
                    self.assertEqual(lost[0], word)

    def test_all_and_none(self):
        for table, position in SOME:
            words = words_of(table.machines()[position], 6)
            self.assertIsNone(lost_by(table, position, list(range(len(pairs(table, position))))))
            none = lost_by(table, position, [])
            self.assertEqual([none], words[:1] or [None])
        self.assertEqual(lost_by(EVENS, 0, [1]), "aa")
        self.assertIsNone(lost_by(places=(3, 1), position=0, table=EVENS))
        self.assertEqual(type(lost_by(EVENS, 0, [3])), str)

    def test_what_is_passed_stays(self):
        places = [3, 1]
        lost_by(EVENS, 0, places)
        self.assertEqual(places, [3, 1])


class Bounds(unittest.TestCase):

    def test_ten_pairs(self):
        self.assertEqual([len(pairs(Table([chain(many)]), 0)) for many in (10, 11)], [10, 11])
        self.assertEqual(fewest(Table([chain(10)]), 0), 10)
        self.assertEqual(fewest_places(Table([chain(10)]), 0), [list(range(10))])
        for table in (Table([chain(11)]), ALL_32, wheel(4, [0, 1, 2])):
            for function in (fewest, least_guesser, fewest_places):
                error = stopped(self, TooMany, function, table, 0)
                self.assertEqual((error.what, error.limit), ("pairs", 10))
                stopped(self, TooMany, function, position=0, table=table)

    def test_more_than_32_pairs(self):
        for table in (JUST_33, ALL_64):
            for function, more in ((fewest, []), (least_guesser, []), (fewest_places, []), (lost_by, [[]])):
                error = stopped(self, TooMany, function, table, 0, *more)
                self.assertEqual((error.what, error.limit), ("pairs", 32))

    def test_none_of_lost_by(self):
        self.assertIsNone(lost_by(ALL_32, 0, list(range(32))))
        self.assertEqual(tells(universal(ALL_32, 0)), ALL_32.machines()[0])
        self.assertEqual(lost_by(Table([chain(11)]), 0, []), "a" * 10)
        stopped(self, InvalidPlaces, lost_by, ALL_32, 0, [32])
        stopped(self, TooMany, lost_by, ALL_64, 0, [99])

    def test_behind_all_else(self):
        for function in (fewest, least_guesser, fewest_places):
            stopped(self, InvalidPosition, function, ALL_64, 1)
            stopped(self, InvalidTable, function, EVEN, 0)


class Wrong(unittest.TestCase):

    def test_all(self):
        wrong = {"table": WRONG_TABLES, "position": WRONG_POSITIONS, "places": WRONG_PLACES}
        for function in (fewest, least_guesser, fewest_places):
            wrongs(self, function, {"table": EVENS, "position": 0}, wrong)
        wrongs(self, lost_by, {"table": EVENS, "position": 0, "places": [1]}, wrong)


if __name__ == "__main__":
    unittest.main()
