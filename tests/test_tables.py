"""[21], [22], [23] tables, classes, products, passed lots."""

import unittest

from helpers import JUNK, all_words, chance_machine, stopped, wrongs
from test_machines import EVEN, WRONG_WORDS
from widefills.errors import (InvalidClass, InvalidMachines, InvalidPosition, InvalidTable, InvalidWord, TooMany,
                              UnlikeLetters)
from widefills.machines import Machine, lets
from widefills.makings import of_words
from widefills.tables import Table, class_of, passed, product

LAST = Machine(2, [[1, 0], [1, 0]], [1])
BOTH = Table([EVEN, LAST])
WRONG_TABLES = (InvalidTable, JUNK + (0, "", [], [EVEN], (EVEN, LAST), EVEN, Table))
WRONG_POSITIONS = (InvalidPosition, JUNK + (2, 3, "", "0", [], [0], (1,), EVEN))
WRONG_CLASSES = (InvalidClass, JUNK + (5, 24, "", "a", "0", [], [0], (1,), EVEN))
# All 24 ways to put four states in other places, made of two of them: just 24 classes.
TURNS = Machine(2, [[1, 1], [2, 0], [3, 2], [0, 3]], [0])


def tables():
    """Tables by chance, with machines that stand twice, and in another sequence."""
    found = []
    for seed in range(120):
        letters = 1 + seed % 3
        one, two = chance_machine(seed, letters, 1 + seed % 4), chance_machine(seed + 300, letters, 1 + seed % 3)
        for machines in ([one], [one, two], [two, one], [one, two, one]):
            try:
                found.append(Table(machines))
            except TooMany:
                continue
    return found


def kind(machines, word):
    """Where the word leads from each state of each machine."""
    found = []
    for machine in machines:
        for state in range(machine.states):
            for sign in word:
                state = machine.steps()[state]["abc".index(sign)]
            found.append(state)
    return tuple(found)


TABLES = tables()


class Classes(unittest.TestCase):

    def test_first_words(self):
        for table in TABLES:
            length = {1: 6, 2: 6, 3: 4}[table.letters]
            firsts = {}
            for word in all_words(table.letters, length):
                firsts.setdefault(kind(table.machines(), word), word)
            words = table.words()
            self.assertEqual([word for word in words if len(word) <= length], list(firsts.values()))
            self.assertEqual(len({kind(table.machines(), word) for word in words}), len(words))
            self.assertEqual(words, sorted(words, key=lambda word: (len(word), word)))
            self.assertEqual(table.classes, len(words))
            self.assertEqual(words[0], "")

    def test_class_of(self):
        for table in TABLES[::3]:
            kinds = [kind(table.machines(), word) for word in table.words()]
            for word in all_words(table.letters, 4):
                self.assertEqual(kinds[class_of(table, word)], kind(table.machines(), word))
        self.assertEqual(class_of(word="ab" * 30, table=BOTH), class_of(BOTH, "aab"))

    def test_products(self):
        for table in TABLES[::3]:
            words, classes = table.words(), range(table.classes)
            for one in classes:
                for other in classes:
                    wanted = kind(table.machines(), words[one] + words[other])
                    self.assertEqual(kind(table.machines(), words[product(table, one, other)]), wanted)
                self.assertEqual((product(table, 0, one), product(table, one, 0)), (one, one))
        self.assertEqual((product(BOTH, 1, 2), product(BOTH, 2, 1)), (4, 1))
        self.assertEqual(product(other=2, table=BOTH, one=1), 4)

    def test_three_put_together(self):
        for table in TABLES[::7]:
            classes = range(min(table.classes, 6))
            for one in classes:
                for two in classes:
                    for three in classes:
                        self.assertEqual(product(table, product(table, one, two), three),
                                         product(table, one, product(table, two, three)))

    def test_passed(self):
        for table in TABLES:
            for position, machine in enumerate(table.machines()):
                lot = passed(table, position)
                self.assertEqual(lot, [one for one, word in enumerate(table.words()) if lets(machine, word)])
                for word in all_words(table.letters, 4):
                    self.assertIs(class_of(table, word) in lot, lets(machine, word))
        self.assertEqual(passed(position=1, table=BOTH), [1, 3])

    def test_least_machines_alone_tell(self):
        """States that no word leads to, and states that are one, make no classes."""
        table = Table([Machine(2, [[1, 2], [0, 1], [3, 0], [2, 3]], [0, 2]), Machine(2, [[0, 0], [0, 1]], [0])])
        self.assertEqual((table.classes, table.words()), (1 + (table.machines()[0].states > 1), ["", "a"][:table.classes]))


class Tables(unittest.TestCase):

    def test_many_machines(self):
        self.assertEqual(Table([EVEN]).words(), Table((EVEN, EVEN, EVEN)).words())
        self.assertEqual(Table(machines=[EVEN]).letters, 2)
        for machines in ([], (), [EVEN] * 4, (EVEN,) * 4):
            self.assertIs(stopped(self, InvalidMachines, Table, machines).value, machines)

    def test_many_classes(self):
        self.assertEqual(Table([TURNS]).classes, 24)
        self.assertEqual(Table([of_words(1, ["a" * 22])]).classes, 24)
        endless = Machine(3, [[1, 1, 1]] + [[(state + 1) % 12, [1, 0, *range(2, 12)][state], state and 3]
                                            for state in range(1, 12)], [0])
        for machines in ([of_words(1, ["a" * 23])], [of_words(1, ["a" * 58])], [TURNS, EVEN], [endless]):
            error = stopped(self, TooMany, Table, machines)
            self.assertEqual((error.what, error.limit), ("classes", 24))

    def test_equal(self):
        self.assertIs(BOTH == Table((EVEN, Machine(2, [[1, 0], [2, 0], [1, 0]], [2, 1]))), True)
        self.assertIs(BOTH == Table([LAST, EVEN]), False)
        self.assertIs(BOTH != Table([LAST, EVEN]), True)
        self.assertIs(BOTH == Table([EVEN, LAST, LAST]), False)
        self.assertIs(Table([EVEN]) == Table([EVEN, EVEN]), False)
        self.assertIs(Table([of_words(1, [])]) == Table([of_words(2, [])]), False)
        for value in JUNK + (0, [EVEN, LAST], (EVEN, LAST), EVEN):
            self.assertIs(BOTH == value, False)
            self.assertIs(Table([EVEN]) == value, False)

    def test_copies(self):
        machines = [EVEN, LAST]
        table = Table(machines)
        self.assertEqual(machines, [EVEN, LAST])
        machines.pop()
        table.machines().pop()
        table.words().append("x")
        passed(table, 0).append(7)
        self.assertEqual((table.machines(), table.words()), ([EVEN, LAST], ["", "a", "b", "aa", "ab"]))
        self.assertEqual((passed(table, 0), table == BOTH), ([0, 2, 3], True))
        self.assertEqual((type(table.machines()), type(table.words())), (list, list))
        self.assertIsNot(table.words(), table.words())


class Wrong(unittest.TestCase):

    def test_machines(self):
        values = JUNK + (0, "", [], (), EVEN, [None], [EVEN, None], [EVEN, 0], [[EVEN]], [EVEN] * 4, [Machine],
                         [BOTH], "ab", {"a": EVEN}, [None, of_words(1, [])], [EVEN, of_words(1, []), None])
        wrongs(self, Table, {"machines": [EVEN]}, {"machines": (InvalidMachines, values)})

    def test_unlike_letters(self):
        one, three = of_words(1, []), of_words(3, [])
        for machines in ([EVEN, one], [one, EVEN], [EVEN, EVEN, three], (three, EVEN, EVEN), [one, one, three]):
            stopped(self, UnlikeLetters, Table, machines)
        stopped(self, UnlikeLetters, Table, [of_words(1, ["a" * 58]), EVEN])

    def test_functions(self):
        wrong = {"table": WRONG_TABLES, "word": WRONG_WORDS, "one": WRONG_CLASSES, "other": WRONG_CLASSES,
                 "position": WRONG_POSITIONS}
        wrongs(self, class_of, {"table": BOTH, "word": "a"}, wrong)
        wrongs(self, product, {"table": BOTH, "one": 4, "other": 0}, wrong)
        wrongs(self, passed, {"table": BOTH, "position": 1}, wrong)

    def test_against_the_table(self):
        one = Table([of_words(1, ["a"])])
        stopped(self, InvalidWord, class_of, one, "b")
        stopped(self, InvalidWord, class_of, one, "a" * 61)
        self.assertEqual(class_of(one, "a" * 60), 2)
        stopped(self, InvalidClass, product, one, 3, 0)
        stopped(self, InvalidClass, product, one, 0, 3)
        stopped(self, InvalidPosition, passed, one, 1)


if __name__ == "__main__":
    unittest.main()
