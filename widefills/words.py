"""Letters, and words of them."""

from widefills.basics import is_below, is_integer
from widefills.errors import InvalidLength, InvalidLetters, InvalidWord

SIGNS = "abc"
LONGEST_WORD = 60
GREATEST_LENGTH = 6


def is_letters(value):
    """Whether the value is a number of letters."""
    return is_integer(value) and 1 <= value <= len(SIGNS)


def check_letters(letters):
    """Raise unless this is a number of letters."""
    if not is_letters(letters):
        raise InvalidLetters(letters)


def check_length(length):
    """Raise unless this is a length up to which words are listed."""
    if not is_below(length, GREATEST_LENGTH + 1):
        raise InvalidLength(length)


def is_word_of(letters, value):
    """Whether the value is a word of the letters, which are known to be right."""
    if not isinstance(value, str) or len(value) > LONGEST_WORD:
        return False
    return all([sign in SIGNS[:letters] for sign in value])


def check_word(letters, word):
    """Raise unless this is a word of the letters, which are known to be right."""
    if not is_word_of(letters, word):
        raise InvalidWord(word)


def is_word(letters, value):
    """Whether the value is a word of so many letters."""
    check_letters(letters)
    return is_word_of(letters, value)


def first_words(letters, length):
    """The words of at most this length, in the sequence."""
    check_letters(letters)
    check_length(length)
    words = longest = [""]
    for _ in range(length):
        longest = [word + sign for word in longest for sign in SIGNS[:letters]]
        words = words + longest
    return words
