"""[5] letters, words and their sequence."""

import unittest

from helpers import JUNK, all_words, wrongs
from widefills.errors import InvalidLength, InvalidLetters
from widefills.words import first_words, is_word

WRONG_LETTERS = (InvalidLetters, JUNK + (0, 4, "", "1", "a", [], [1], (1,), ()))
WRONG_LENGTHS = (InvalidLength, JUNK + (7, 60, "", "2", [], [2], (0,)))


class IsWord(unittest.TestCase):

    def test_words(self):
        for letters, words in ((1, ["", "a", "aa"]), (2, ["", "b", "abba"]), (3, ["", "c", "cab"])):
            for word in words:
                self.assertIs(is_word(letters, word), True)
                self.assertIs(is_word(value=word, letters=letters), True)

    def test_other_signs(self):
        for letters, words in ((1, ["b", "ab", "A"]), (2, ["c", "abc", " ", "a b"]), (3, ["d", "abcd", "-", "\n"])):
            for word in words:
                self.assertIs(is_word(letters, word), False)

    def test_longest(self):
        self.assertIs(is_word(3, "abc" * 20), True)
        self.assertIs(is_word(3, "abc" * 20 + "a"), False)
        self.assertIs(is_word(1, "a" * 60), True)
        self.assertIs(is_word(1, "a" * 61), False)

    def test_other_kinds(self):
        for value in JUNK + ([], ["a"], ("a",), (), 0, 1):
            self.assertIs(is_word(2, value), False)

    def test_wrong(self):
        wrongs(self, is_word, {"letters": 1, "value": "a"}, {"letters": WRONG_LETTERS})


class FirstWords(unittest.TestCase):

    def test_all(self):
        for letters in (1, 2, 3):
            for length in range(7):
                words = first_words(letters, length)
                self.assertEqual(words, all_words(letters, length))
                self.assertEqual(words, sorted(set(words), key=lambda word: (len(word), word)))
        self.assertEqual(first_words(length=1, letters=3), ["", "a", "b", "c"])

    def test_new(self):
        first_words(2, 0).append("x")
        self.assertEqual(first_words(2, 0), [""])

    def test_wrong(self):
        wrongs(self, first_words, {"letters": 1, "length": 2}, {"letters": WRONG_LETTERS, "length": WRONG_LENGTHS})


if __name__ == "__main__":
    unittest.main()
