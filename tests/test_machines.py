"""[5], [6], [11], [12] machines and their least form."""

import unittest

from helpers import JUNK, all_words, chain, chance_machine, chance_steps, led, told, wrongs
from test_words import WRONG_LENGTHS, WRONG_LETTERS
from widefills.errors import InvalidEnds, InvalidMachine, InvalidSteps, InvalidWord
from widefills.machines import Machine, is_empty, lets, shortest, words_of

EVEN = Machine(2, [[1, 0], [0, 1]], [0])
WRONG_MACHINES = (InvalidMachine, tuple(value for value in JUNK) + (0, 1, "", [], [EVEN], (EVEN,), (2, [[0, 0]], [])))
WRONG_WORDS = (InvalidWord, JUNK + ("c", "abc", "a" * 61, " ", "A", 0, 1, [], ["a"], ("a",), ()))


class Wrong(unittest.TestCase):

    def test_letters_and_steps(self):
        steps = JUNK + (
            0, 1, "", "01", [], (), [[]], [()], [[0]], [[0], [0]], [[0, 0, 0]], [[0, 1]], [[1, 0]], [[0, -1]],
            [[0, True]], [[False, 0]], [[0, None]], [["0", 0]], [[0, [0]]], [[0, 0], [0]], [[0, 0], []],
            [[0, 0], None], [[0, 0], "00"], [[0, 0], 0], [{0: 0, 1: 0}], {0: [0, 0]}, ([0, 2], [0, 0]),
            [[0, 10 ** 30]], [[0, 0], {0, 1}], ["ab", "ba"], [[0, 0]] * 13, ((0, 0),) * 13)
        ends = JUNK + (
            0, 1, "", "0", [2], [-1], [0, 0], [1, 0, 1], (1, 1), [True], [False], [0, True], [None], ["0"], [[0]],
            [10 ** 30], [0, 1, 2], [(0,)], {0: 1})
        right = {"letters": 2, "steps": [[1, 0], [0, 1]], "ends": [0]}
        wrong = {"letters": WRONG_LETTERS, "steps": (InvalidSteps, steps), "ends": (InvalidEnds, ends)}
        wrongs(self, Machine, right, wrong)

    def test_bounds(self):
        self.assertEqual(chain(1).states, 1)
        self.assertEqual(chain(12).states, 12)
        with self.assertRaises(InvalidSteps):
            chain(13)
        for letters in (1, 2, 3):
            self.assertEqual(Machine(letters, [[0] * letters], []).letters, letters)
            for many in (letters - 1, letters + 1):
                with self.assertRaises(InvalidSteps):
                    Machine(letters, [[0] * many], [])

    def test_one_bad_row_among_twelve(self):
        rows = [[0, 0] for _ in range(11)]
        Machine(2, rows + [[11, 11]], [11])
        with self.assertRaises(InvalidSteps):
            Machine(2, rows + [[11, 12]], [11])
        with self.assertRaises(InvalidEnds):
            Machine(2, rows + [[11, 11]], [12])

    def test_functions(self):
        right = {"machine": EVEN, "word": "ab", "length": 2}
        wrong = {"machine": WRONG_MACHINES, "word": WRONG_WORDS, "length": WRONG_LENGTHS}
        for function, names in (
                (lets, ["machine", "word"]), (is_empty, ["machine"]), (shortest, ["machine"]),
                (words_of, ["machine", "length"])):
            wrongs(self, function, {name: right[name] for name in names}, wrong)

    def test_words_against_the_letters(self):
        for letters, word in ((1, "b"), (2, "c"), (3, "d")):
            machine = Machine(letters, [[0] * letters], [0])
            with self.assertRaises(InvalidWord):
                lets(machine, word)
        self.assertIs(lets(chain(12), "a" * 60), True)
        with self.assertRaises(InvalidWord):
            lets(chain(12), "a" * 61)


class LeastForm(unittest.TestCase):

    def test_no_word_leads_there(self):
        machine = Machine(2, [[0, 1], [1, 0], [0, 2]], [1, 2])
        self.assertEqual((machine.steps(), machine.ends()), ([[0, 1], [1, 0]], [1]))

    def test_states_that_let_the_same(self):
        machine = Machine(1, [[1], [2], [3], [0]], [1, 3])
        self.assertEqual((machine.states, machine.steps(), machine.ends()), (2, [[1], [0]], [1]))

    def test_another_numbering(self):
        one = Machine(2, [[1, 2], [1, 2], [2, 2]], [1])
        other = Machine(2, [[2, 1], [1, 1], [2, 1]], [2])
        self.assertEqual(one, other)
        self.assertEqual(other.steps(), [[1, 2], [1, 2], [2, 2]])
        self.assertEqual(other.ends(), [1])

    def test_nothing_and_everything(self):
        nothing = Machine(3, [[1, 0, 2], [2, 1, 0], [0, 0, 0]], [])
        self.assertEqual((nothing.letters, nothing.states, nothing.steps(), nothing.ends()), (3, 1, [[0, 0, 0]], []))
        everything = Machine(2, [[1, 0], [1, 1]], [1, 0])
        self.assertEqual((everything.states, everything.steps(), everything.ends()), (1, [[0, 0]], [0]))

    def test_by_chance(self):
        for seed in range(150):
            letters, states = 1 + seed % 3, 1 + seed % 7
            steps, ends = chance_steps(seed, letters, states)
            machine = Machine(letters, steps, ends)
            rows, stops = machine.steps(), machine.ends()
            words = all_words(letters, 6 if letters < 3 else 5)
            self.assertEqual([led(rows, word) in stops for word in words],
                             [led(steps, word) in ends for word in words])
            firsts = {}
            for word in all_words(letters, states - 1 if letters < 3 else min(states - 1, 5)):
                firsts.setdefault(led(rows, word), word)
            self.assertEqual(list(firsts), sorted(firsts))
            if letters < 3 or states < 7:
                self.assertEqual(len(firsts), machine.states)
            tails = all_words(letters, 6 if letters < 3 else 5)
            told_from = [tuple(led_from(rows, state, word) in stops for word in tails) for state in range(len(rows))]
            self.assertEqual(len(set(told_from)), machine.states)

    def test_a_least_machine_is_its_own(self):
        for seed in range(60):
            machine = chance_machine(seed, 1 + seed % 3, 1 + seed % 12)
            self.assertEqual(Machine(machine.letters, machine.steps(), machine.ends()), machine)


def led_from(steps, state, word):
    for sign in word:
        state = steps[state]["abc".index(sign)]
    return state


class Equal(unittest.TestCase):

    def test_same_words(self):
        for seed in range(0, 40):
            for other in range(seed, 40, 3):
                one, two = chance_steps(seed, 2, 3), chance_steps(other, 2, 3)
                alike = told(2, *one, 5) == told(2, *two, 5)
                self.assertIs(Machine(2, *one) == Machine(2, *two), alike)
                self.assertIs(Machine(2, *one) != Machine(2, *two), not alike)

    def test_letters(self):
        self.assertIs(Machine(1, [[0]], [0]) == Machine(2, [[0, 0]], [0]), False)
        self.assertIs(Machine(1, [[0]], []) == Machine(2, [[0, 0]], []), False)
        self.assertIs(Machine(2, [[0, 0]], [0]) == Machine(2, [[0, 0]], []), False)

    def test_other_kinds(self):
        for value in JUNK + (0, "", [], (2, [[1, 0], [0, 1]], [0]), [[1, 0], [0, 1]]):
            self.assertIs(EVEN == value, False)
            self.assertIs(EVEN != value, True)


class Copies(unittest.TestCase):

    def test_tuples(self):
        machine = Machine(2, ((1, 0), [0, 1]), (0,))
        self.assertEqual(machine, EVEN)
        self.assertEqual((type(machine.steps()), type(machine.steps()[0]), type(machine.ends())), (list, list, list))
        self.assertEqual(Machine(letters=2, steps=[(1, 0), (0, 1)], ends=()).ends(), [])

    def test_any_sequence_of_ends(self):
        self.assertEqual(Machine(1, [[1], [2], [2]], [2, 0]).ends(), [0, 2])

    def test_what_was_passed(self):
        steps, ends = [[1, 0], [0, 1]], [0]
        machine = Machine(2, steps, ends)
        self.assertEqual((steps, ends), ([[1, 0], [0, 1]], [0]))
        steps[0][0] = 0
        steps.append([0, 0])
        ends.append(1)
        self.assertEqual(machine, EVEN)

    def test_what_was_returned(self):
        machine = Machine(2, [[1, 0], [0, 1]], [0])
        steps, ends = machine.steps(), machine.ends()
        steps[0][0] = 7
        steps.pop()
        ends.append(1)
        words_of(machine, 2).append("x")
        self.assertEqual((machine.steps(), machine.ends()), ([[1, 0], [0, 1]], [0]))
        self.assertIsNot(machine.steps(), machine.steps())
        self.assertIsNot(machine.steps()[0], machine.steps()[0])
        self.assertIsNot(machine.ends(), machine.ends())
        self.assertEqual(words_of(machine, 2), ["", "b", "aa", "bb"])


class Words(unittest.TestCase):

    def test_against_leading(self):
        for seed in range(60):
            letters, states = 1 + seed % 3, 1 + seed % 6
            steps, ends = chance_steps(seed, letters, states)
            machine = Machine(letters, steps, ends)
            words = told(letters, steps, ends, 6)
            for length in range(7):
                self.assertEqual(words_of(machine, length), [word for word in words if len(word) <= length])
            for word in all_words(letters, 3):
                self.assertIs(lets(machine, word), word in words)
            self.assertIs(is_empty(machine), not words)
            self.assertEqual(shortest(machine), words[0] if words else None)

    def test_far_words(self):
        self.assertEqual(shortest(chain(12)), "a" * 11)
        self.assertIs(is_empty(chain(12)), False)
        self.assertEqual(words_of(chain(8), 6), [])
        self.assertEqual(shortest(Machine(3, [[0, 1, 0], [1, 2, 1], [2, 2, 3], [3, 3, 3]], [3])), "bbc")

    def test_by_name(self):
        self.assertIs(lets(word="aa", machine=EVEN), True)
        self.assertEqual(words_of(length=1, machine=EVEN), ["", "b"])
        self.assertIs(is_empty(machine=EVEN), False)
        self.assertEqual(shortest(machine=EVEN), "")

    def test_sequence(self):
        words = words_of(Machine(3, [[0, 0, 0]], [0]), 4)
        self.assertEqual(words, sorted(words, key=lambda word: (len(word), word)))


if __name__ == "__main__":
    unittest.main()
