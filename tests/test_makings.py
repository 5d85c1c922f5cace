"""[7], [13], [14] machines made of words and of machines, within and parting."""

import unittest

from helpers import JUNK, all_words, chain, chance_machine, stopped, wrongs
from test_machines import EVEN, WRONG_MACHINES
from test_words import WRONG_LETTERS
from widefills.errors import InvalidMachine, InvalidWords, TooMany, UnlikeLetters
from widefills.machines import Machine, lets, words_of
from widefills.makings import behind, is_within, joined, met, of_words, parting, rounds, without

NOTHING, EMPTY_WORD = of_words(2, []), of_words(2, [""])
OF_TWO = (joined, met, without, behind, is_within, parting)


def lots(seed):
    """Two machines with as many letters; now and then one without words, or of the empty word alone."""
    letters = 1 + seed % 3
    some = [chance_machine(seed * 2 + at, letters, 1 + (seed + at) % 6) for at in range(2)]
    if seed % 10 == 1:
        some[seed % 2] = of_words(letters, [])
    if seed % 10 == 2:
        some[seed % 2] = of_words(letters, [""])
    return some


def wheel(many, *ends):
    """The words of a whose length, divided by so many, leaves one of these."""
    return Machine(1, [[(state + 1) % many] for state in range(many)], ends or (0,))


class OfWords(unittest.TestCase):

    def test_just_these(self):
        for letters, words in ((1, []), (1, [""]), (1, ["aaa", "a"]), (2, ["ab", "", "b", "aab"]), (3, ["cab", "c"])):
            machine = of_words(letters, words)
            self.assertEqual(machine.letters, letters)
            self.assertEqual(words_of(machine, 6), sorted(words, key=lambda word: (len(word), word)))

    def test_doubled_and_tuples(self):
        self.assertEqual(of_words(2, ("ab", "ab", "")), of_words(words=["", "ab"], letters=2))

    def test_least(self):
        self.assertEqual(of_words(2, []).steps(), [[0, 0]])
        self.assertEqual(of_words(2, ["aa", "ab", "ba", "bb"]).states, 4)
        self.assertEqual(of_words(2, ["", "a", "b"]), Machine(2, [[1, 1], [2, 2], [2, 2]], [0, 1]))

    def test_far_words(self):
        word = "ab" * 29
        machine = of_words(2, [word])
        self.assertEqual(machine.states, 60)
        self.assertIs(lets(machine, word), True)
        self.assertIs(lets(machine, word + "a"), False)
        self.assertIs(lets(machine, word[:-1]), False)

    def test_too_many_states(self):
        self.assertEqual(of_words(1, ["a" * 58]).states, 60)
        for words in (["a" * 59], ["a" * 60, ""], ["a" * 30 + "b" * 30], ["b" + "a" * 58]):
            error = stopped(self, TooMany, of_words, 2, words)
            self.assertEqual((error.what, error.limit), ("states", 60))

    def test_many_words(self):
        words = ["a" * at for at in range(20)]
        self.assertEqual(of_words(1, words).states, 21)
        for wrong in (words + ["a" * 20], tuple(words) + ("",), [""] * 21):
            with self.assertRaises(InvalidWords) as caught:
                of_words(1, wrong)
            self.assertIs(caught.exception.value, wrong)

    def test_wrong(self):
        words = JUNK + (0, "", "a", "ab", ["c"], ["a", "c"], ["a" * 61], [None], [True], [0], [["a"]], ("a", 1),
                        [b"a"], [""] * 21)
        wrongs(self, of_words, {"letters": 2, "words": ["a"]}, {"letters": WRONG_LETTERS, "words": (InvalidWords, words)})
        with self.assertRaises(InvalidWords):
            of_words(1, ["b"])
        with self.assertRaises(InvalidWords):
            of_words(1, ["a" * 60, "b"])


class Made(unittest.TestCase):

    def test_words_put_together_by_hand(self):
        for seed in range(90):
            one, two = lots(seed)
            length = 6 if one.letters < 3 else 4
            words = all_words(one.letters, length)
            near, far = words_of(one, length), words_of(two, length)
            for function, wanted in (
                    (joined, set(near) | set(far)), (met, set(near) & set(far)), (without, set(near) - set(far)),
                    (behind, {first + last for first in near for last in far}), (rounds, starred(near, length))):
                made = function(one) if function is rounds else function(one, two)
                self.assertEqual(made.letters, one.letters)
                self.assertEqual(words_of(made, length), [word for word in words if word in wanted])

    def test_sequence_of_both(self):
        a, b = of_words(2, ["a"]), of_words(2, ["b"])
        self.assertEqual(behind(a, b), of_words(2, ["ab"]))
        self.assertEqual(behind(other=a, machine=b), of_words(2, ["ba"]))
        self.assertEqual(without(other=a, machine=joined(a, b)), b)
        self.assertEqual(without(a, joined(a, b)), NOTHING)

    def test_laws(self):
        for seed in range(40):
            one, two = lots(seed)
            three = chance_machine(seed + 500, one.letters, 3)
            no_word, empty_word = of_words(one.letters, []), of_words(one.letters, [""])
            self.assertEqual(behind(behind(one, two), three), behind(one, behind(two, three)))
            self.assertEqual(behind(joined(one, two), three), joined(behind(one, three), behind(two, three)))
            self.assertEqual(rounds(rounds(one)), rounds(one))
            self.assertEqual(rounds(one), joined(empty_word, behind(one, rounds(one))))
            self.assertEqual((behind(one, empty_word), behind(empty_word, one)), (one, one))
            self.assertEqual((behind(one, no_word), behind(no_word, one)), (no_word, no_word))
            self.assertEqual(joined(without(one, two), met(one, two)), one)

    def test_nothing_and_the_empty_word(self):
        self.assertEqual((rounds(NOTHING), rounds(EMPTY_WORD)), (EMPTY_WORD, EMPTY_WORD))
        self.assertEqual((joined(NOTHING, EVEN), met(NOTHING, EVEN), without(EVEN, NOTHING)), (EVEN, NOTHING, EVEN))

    def test_least(self):
        for seed in range(40):
            one, two = lots(seed)
            for made in (joined(one, two), met(one, two), without(one, two), behind(one, two), rounds(one)):
                if made.states <= 12:
                    self.assertEqual(Machine(made.letters, made.steps(), made.ends()), made)

    def test_what_was_passed_stays(self):
        one, two = chance_machine(5, 2, 5), chance_machine(6, 2, 5)
        before = [one.steps(), one.ends(), two.steps(), two.ends()]
        words = ["ab", "a"]
        of_words(2, words)
        for function in OF_TWO:
            function(one, two)
            function(one, one)
        rounds(one)
        self.assertEqual([one.steps(), one.ends(), two.steps(), two.ends()], before)
        self.assertEqual(words, ["ab", "a"])


def starred(words, length):
    found, newest = {""}, {""}
    while newest:
        newest = {first + last for first in newest for last in words if len(first + last) <= length} - found
        found |= newest
    return found


class TooManyStates(unittest.TestCase):

    def refuse(self, function, *machines):
        error = stopped(self, TooMany, function, *machines)
        self.assertEqual((error.what, error.limit), ("states", 60))

    def test_led_at_once(self):
        for function in (joined, met, without):
            self.assertEqual(function(wheel(5), wheel(12)).states, 60)
            self.refuse(function, wheel(7), wheel(9))
        self.assertEqual(met(wheel(7), wheel(8)).states, 56)
        self.assertEqual(joined(wheel(8, 0, 2, 4, 6), wheel(12, 1, 3, 5, 7, 9, 11)).states, 1)

    def test_behind(self):
        half = of_words(1, ["a" * 29])
        self.assertEqual(behind(half, half).states, 60)
        self.refuse(behind, half, of_words(1, ["a" * 30]))
        self.refuse(behind, of_words(1, ["a" * 58]), of_words(1, ["a" * 58]))

    def test_rounds(self):
        """With words of these lengths alone there is no word of the length 58, or 59, but each longer one."""
        self.assertEqual(rounds(of_words(1, ["a" * 4, "a" * 31, "a" * 33])).states, 60)
        self.refuse(rounds, of_words(1, ["a" * 4, "a" * 21]))
        self.refuse(rounds, of_words(1, ["a" * 11, "a" * 8]))

    def test_many_subsets(self):
        """All words, and behind them one whose sign so many places ahead of the end is a."""
        everything = Machine(2, [[0, 0]], [0])
        self.assertEqual(behind(everything, ahead(5)).states, 32)
        self.refuse(behind, everything, ahead(6))
        self.refuse(behind, everything, ahead(9))
        self.assertEqual(behind(everything, joined(ahead(9), EMPTY_WORD)), everything)

    def test_not_within_and_parting(self):
        self.assertIs(is_within(wheel(7), wheel(9)), False)
        self.assertEqual(parting(wheel(7), wheel(9)), "a" * 7)


def ahead(many):
    """A word of so many signs, the first one a."""
    steps = [[1, many + 1]] + [[at + 1, at + 1] for at in range(1, many)] + [[many + 1, many + 1]] * 2
    return Machine(2, steps, [many])


class Within(unittest.TestCase):

    def test_by_words(self):
        for seed in range(90):
            one, two = lots(seed)
            length = 6 if one.letters < 3 else 5
            near, far = words_of(one, length), words_of(two, length)
            apart = sorted(set(near) ^ set(far), key=lambda word: (len(word), word))
            first = parting(one, two)
            self.assertEqual(first is None, one == two)
            if apart:
                self.assertEqual(first, apart[0])
            elif first is not None:
                self.assertGreater(len(first), length)
                self.assertNotEqual(lets(one, first), lets(two, first))
            self.assertIs(is_within(one, two), joined(one, two) == two)
            self.assertIs(is_within(met(one, two), one), True)
            self.assertIs(is_within(one, one), True)
            self.assertIsNone(parting(one, one))

    def test_ends(self):
        self.assertIs(is_within(NOTHING, NOTHING), True)
        self.assertIs(is_within(NOTHING, EMPTY_WORD), True)
        self.assertIs(is_within(EMPTY_WORD, NOTHING), False)
        self.assertIs(is_within(other=EVEN, machine=EMPTY_WORD), True)
        self.assertEqual(parting(NOTHING, EMPTY_WORD), "")
        self.assertEqual(parting(other=EVEN, machine=EMPTY_WORD), "b")

    def test_either_may_let_the_first_one(self):
        one, two = of_words(2, ["ab", "bb"]), of_words(2, ["ba", "bb"])
        self.assertEqual((parting(one, two), parting(two, one)), ("ab", "ab"))
        self.assertEqual(parting(chain(12), chain(11)), "a" * 10)

    def test_a_parting_word_of_more_than_sixty_signs(self):
        """56 signs, and then rounds of 57 or of 58."""
        start = of_words(1, ["a" * 56])
        one, two = (behind(start, rounds(of_words(1, ["a" * many]))) for many in (57, 58))
        self.assertEqual((one.states, two.states), (57, 58))
        self.assertEqual((parting(one, two), parting(two, one)), ("a" * 113, "a" * 113))
        self.assertIs(is_within(one, two), False)


class Wrong(unittest.TestCase):

    def test_machines(self):
        wrong = {"machine": WRONG_MACHINES, "other": WRONG_MACHINES}
        for function in OF_TWO:
            wrongs(self, function, {"machine": EVEN, "other": NOTHING}, wrong)
        wrongs(self, rounds, {"machine": EVEN}, wrong)

    def test_unlike_letters(self):
        for function in OF_TWO:
            for letters in (1, 3):
                other = Machine(letters, [[0] * letters], [0])
                stopped(self, UnlikeLetters, function, EVEN, other)
                stopped(self, UnlikeLetters, function, machine=other, other=EVEN)

    def test_sequence_of_errors(self):
        for function in OF_TWO:
            stopped(self, InvalidMachine, function, chain(3), None)
            stopped(self, InvalidMachine, function, None, chain(3))
        stopped(self, UnlikeLetters, behind, of_words(1, ["a" * 58]), of_words(2, ["a" * 58]))
        stopped(self, UnlikeLetters, joined, wheel(7), of_words(2, ["a" * 58]))


if __name__ == "__main__":
    unittest.main()
