"""[1] to [4] over the whole program: the example ahead of all, conventions of all functions, the four guarantees."""

import importlib
import unittest
from random import Random

from by_hand import X, Y, chance_pattern, row, star
from helpers import all_words, chance_machine
from interface import FUNCTIONS
from test_guessers import CASES as GUESSERS, PICK
from test_machines import EVEN
from test_middles import EVENS
from test_tables import BOTH, LAST
from test_universals import TWO
from test_views import B, CASES as VIEWED, ODD
from widefills.answers import answer, is_exact, lost_word
from widefills.desk import Desk
from widefills.errors import TooMany
from widefills.fewest import fewest, least_guesser
from widefills.greatest import greatest
from widefills.guessers import Guesser, of_use, tells
from widefills.lots import widened
from widefills.machines import Machine, lets, words_of
from widefills.mades import is_made, losses, making
from widefills.makings import behind, is_within, of_words
from widefills.patterns import made
from widefills.pairs import pairs
from widefills.tables import Table
from widefills.universals import is_map, map_to
from widefills.views import is_sure, opened, readings_of

TWICE = row(X, X)
SAID = [(TWICE, 0)]
# For each parameter a value that goes with the others; below those of functions that want others.
VALUES = {
    "value": [[1]], "letters": 2, "length": 2, "machine": EVEN, "word": "ab", "words": ["a", "", "ba"], "other": ODD,
    "table": EVENS, "position": 0, "lot": [1, 0], "one": 1, "near": 1, "far": 3, "many": 1, "lots": [[1]],
    "pattern": TWICE, "filling": [ODD, B], "reading": ("round", [("word", "a"), ("name", 0, "b")]), "sayings": SAID,
    "name": 0, "least": [ODD], "most": [0], "guesser": TWO, "places": [3, 1], "views": [ODD, B], "text": "2: 1,0; 0,1 / 0",
    "claim": ("right", EVENS, 1, SAID, [[1]]), "desk": Desk(), "action": len,
}
OTHERS = {
    "product": {"other": 0}, "behind_lots": {"other": [1]}, "rest_behind": {"other": [1]}, "rest_ahead": {"other": [0]},
    "are_alike": {"other": star(X)}, "mixed_parting": {"other": star(X)}, "is_way": {"value": [1, 3]},
    "is_pair": {"value": ([], [0, 1])}, "growing_break": {"one": 0}, "is_growing_break": {"one": 0},
    "merged": {"near": 1, "far": 0, "guesser": PICK}, "is_losses": {"pattern": row(X, Y), "value": [([[0], [0]], "aa")]},
    "losses": {"pattern": row(X, ("word", "b"))}, "opened": {"machine": Machine(2, [[1, 0], [0, 1]], [0])},
    "parse_word": {"text": "ab"}, "parse_pattern": {"text": "(X.Y)"}, "parse_lots": {"text": "1,0"},
    "parse_guesser": {"text": "2: 0 / 1,0; 0,1 / 0"}, "parse_views": {"text": "1:0/0"}, "is_map": {"value": [1, 3]},
    "is_leaving": {"value": ["a", "b"]}, "is_mixed": {"value": [0, 0]}, "is_outside": {"value": ("name", 0, "a")},
    "is_reading": {"value": ("behind", ("name", 0, "a"), ("name", 0, "a"))}, "lost_by": {"places": [1]},
}


def calls():
    """(function, its arguments by their names), each function of the interface once."""
    found = []
    for file, functions in FUNCTIONS.items():
        module = importlib.import_module("widefills." + file)
        for name, parameters in functions.items():
            told = {**VALUES, **OTHERS.get(name, {})}
            found.append((getattr(module, name), {parameter: told[parameter] for parameter in parameters}))
    return found


def with_tuples(value):
    """The value, with tuples in the place of its lists, also inside."""
    return tuple(with_tuples(part) for part in value) if isinstance(value, (list, tuple)) else value


def lists_in(value):
    """All lists and dicts in the value."""
    inner = [one for part in value for one in lists_in(part)] if isinstance(value, (list, tuple)) else []
    return ([value] if isinstance(value, (list, dict)) else []) + inner


def spoil(value):
    """Change all lists in the value."""
    for one in lists_in(value):
        one.append("spoiled")


class Overview(unittest.TestCase):

    def test_the_example(self):
        """[1] two greatest fillings: all words with an even, all words with an odd number of a."""
        self.assertEqual([[EVENS.words()[one] for one in lots[0]] for lots in greatest(EVENS, 1, SAID)], [[""], ["a"]])


class Conventions(unittest.TestCase):
    """[2] what holds of all functions."""

    def test_place_and_name(self):
        for function, told in calls():
            self.assertEqual(function(*told.values()), function(**told), function)

    def test_calls_are_repeated(self):
        for function, told in calls():
            first = function(**told)
            self.assertEqual(function(**told), first, function)
            self.assertIs(type(function(**told)), type(first))

    def test_tuples_for_lists(self):
        for function, told in calls():
            if function.__name__ not in ("copied", "is_claim", "tried"):
                other = {name: with_tuples(value) for name, value in told.items()}
                if function.__name__ == "contrary":
                    self.assertEqual(with_tuples(function(**told)), function(**other))
                else:
                    self.assertEqual(function(**other), function(**told), function)

    def test_arguments_stay(self):
        for function, told in calls():
            ahead = repr([value for value in told.values() if isinstance(value, (list, tuple, dict, str, int))])
            function(**told)
            behind_it = repr([value for value in told.values() if isinstance(value, (list, tuple, dict, str, int))])
            self.assertEqual(ahead, behind_it, function)

    def test_what_is_returned_is_new(self):
        for function, told in calls():
            result, wanted = function(**told), repr(function(**told))
            for one in lists_in(result):
                self.assertFalse([value for value in told.values() for part in lists_in(value) if part is one], function)
            if isinstance(result, (list, tuple)):
                self.assertEqual(len({id(one) for one in lists_in(result)}), len(lists_in(result)), function)
                spoil(result)
                again = function(**told)
                self.assertNotIn("spoiled", repr(again), function)
                self.assertEqual(len(repr(again)), len(wanted), function)

    def test_tellers_return_bools(self):
        for function, told in calls():
            if function.__name__.startswith(("is_", "are_", "lets", "fits", "stays")):
                self.assertIsInstance(function(**told), bool, function)
                if "value" in told:
                    for value in (None, 0, "", [], (), {}, True, object()):
                        self.assertIsInstance(function(**{**told, "value": value}), bool, function)

    def test_all_functions_are_called(self):
        self.assertGreater(len(calls()), 90)


class Limits(unittest.TestCase):
    """[3] what is just within the limits."""

    def test_thirty_digits(self):
        module = importlib.import_module("widefills.basics")
        self.assertIs(module.is_count(10 ** 29), True)
        self.assertIs(is_map(EVENS, 0, TWO, [10 ** 29, 1]), False)

    def test_long_lists(self):
        self.assertIs(is_map(EVENS, 0, TWO, [1] * 200), False)
        self.assertEqual(len(Desk().do_all(*["names"] * 200)), 200)


def filled_by_chance(letters, many, seed):
    """Machines by chance: some of them of few words, some of many."""
    chance = Random(seed)
    found = []
    for place in range(many):
        words = ["".join(chance.choice("abc"[:letters]) for _ in range(chance.randrange(4))) for _ in range(2)]
        found.append(chance.choice([of_words(letters, words), of_words(letters, words[:1]), of_words(letters, []),
                                    chance_machine(seed + 7 * place, letters, 1 + seed % 3)]))
    return found


class Guarantees(unittest.TestCase):
    """[4] the four of them, by things of chance."""

    def cases(self):
        found = []
        for seed in range(90):
            letters, many = 1 + seed % 3, 1 + seed % 2
            try:
                table = Table([chance_machine(seed, letters, 1 + seed % 4)])
                if table.classes > 8:
                    continue
                pattern = chance_pattern(seed, letters, many, 2 + seed % 5)
                found.append((table, many, pattern, greatest(table, many, [(pattern, 0)]), seed))
            except TooMany:
                continue
        return found

    def test_greatest_fillings(self):
        seen = []
        for table, many, pattern, fillings, seed in self.cases():
            machine = table.machines()[0]
            for turn in range(6):
                filling = filled_by_chance(table.letters, many, seed * 6 + turn)
                try:
                    stays = is_within(made(table.letters, pattern, filling), machine)
                except TooMany:
                    continue
                wide = [set(widened(table, one)) for one in filling]
                below = any(all(one <= set(lot) for one, lot in zip(wide, lots)) for lots in fillings)
                self.assertIs(stays, below, (pattern, seed))
                seen.append(stays)
        self.assertGreater(min(seen.count(True), seen.count(False)), 60)

    def test_made_at_all(self):
        seen = []
        for table, many, pattern, _, seed in self.cases():
            machine = table.machines()[0]
            try:
                told = is_made(table, 0, pattern)
                lots = making(table, 0, pattern) if told else losses(table, 0, pattern)
            except TooMany:
                continue
            for turn in range(6):
                filling = filled_by_chance(table.letters, many, seed * 6 + turn)
                try:
                    if made(table.letters, pattern, filling) == machine:
                        self.assertIs(told, True)
                except TooMany:
                    continue
            if not told:
                self.assertTrue(all(lets(machine, word) for _, word in lots))
            seen.append(told)
        self.assertGreater(min(seen.count(True), seen.count(False)), 10)

    def test_one_machine(self):
        seen = 0
        for parts in GUESSERS:
            guesser = of_use(Guesser(*parts))
            try:
                table = Table([tells(guesser)])
                if len(pairs(table, 0)) > 7:
                    continue
            except TooMany:
                continue
            self.assertTrue(is_map(table, 0, guesser, map_to(table, 0, guesser)))
            self.assertLessEqual(fewest(table, 0), guesser.states)
            self.assertEqual(tells(least_guesser(table, 0)), tells(guesser))
            seen += 1
        self.assertGreater(seen, 60)

    def test_sure(self):
        for machine, views in VIEWED:
            told = answer(machine, views)
            for word in all_words(len(views), 3):
                self.assertIs(is_sure(machine, views, word), lets(told, word))
                try:
                    self.assertIs(is_sure(machine, views, word), is_within(readings_of(views, word), machine))
                except TooMany:
                    continue
            try:
                self.assertIs(is_exact(machine, views), opened(views, told) == machine)
                self.assertIs(is_exact(machine, views), lost_word(machine, views) is None)
            except TooMany:
                continue

    def test_by_hand(self):
        """[54] breaks tell classes that can't be added; [53] none of the greatest lies within another one."""
        fillings = greatest(BOTH, 2, [(row(X, Y), 0), (Y, 1)])
        for one in fillings:
            for other in fillings:
                within = all(set(lot) <= set(more) for lot, more in zip(one, other))
                self.assertIs(within, one == other)
        self.assertEqual(words_of(behind(LAST, LAST), 2), ["aa"])


if __name__ == "__main__":
    unittest.main()
