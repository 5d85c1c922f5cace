"""Reading texts piece by piece: what a readable text says, whether or not there is such a thing."""

from widefills.errors import InvalidText
from widefills.texts import NAME_SIGNS
from widefills.words import SIGNS

FIGURES = "0123456789"
MOST_FIGURES = 6
KINDS_BY_DIVIDER = {".": "behind", "|": "either"}


class Pieces:
    """A text, and how much of it is read. What can't be led on raises InvalidText with its position."""

    def __init__(self, text):
        if not isinstance(text, str):
            raise InvalidText(None)
        self.text = text
        self.at = 0

    def sign_here(self):
        """The next sign, of no piece so far, blanks left out; the empty string at the end."""
        while self.text[self.at:self.at + 1] == " ":
            self.at += 1
        return self.text[self.at:self.at + 1]

    def is_taken(self, sign):
        """Whether the next sign is this one; if so, it is read."""
        if self.sign_here() != sign:
            return False
        self.at += 1
        return True

    def take(self, signs):
        """The next sign, read: it is one of these."""
        sign = self.sign_here()
        if sign == "" or sign not in signs:
            raise InvalidText(self.at)
        self.at += 1
        return sign

    def take_end(self):
        """There is no further sign."""
        if self.sign_here() != "":
            raise InvalidText(self.at)

    def take_more(self, signs, most):
        """The piece of signs that stand together: one that is read, and at most so many with those behind it."""
        first = self.at - 1
        while self.at < len(self.text) and self.at - first < most and self.text[self.at] in signs:
            self.at += 1
        return self.text[first:self.at]

    def take_numeral(self):
        """The number of a numeral."""
        return 0 if self.take(FIGURES) == "0" else int(self.take_more(FIGURES, MOST_FIGURES))

    def take_word(self):
        """A word, of whatever length."""
        return "" if self.take(SIGNS + "-") == "-" else self.take_more(SIGNS, len(self.text))

    def take_none(self):
        """The piece `none`: nothing stands within it."""
        for sign in "none":
            if self.text[self.at:self.at + 1] != sign:
                raise InvalidText(self.at)
            self.at += 1

    def take_numbers(self, divider):
        """A list of numbers with the divider between."""
        if self.is_taken("-"):
            return []
        found = [self.take_numeral()]
        while self.is_taken(divider):
            found.append(self.take_numeral())
        return found

    def take_lists(self, divider, between):
        """Lists of numbers, with what stands between them."""
        found = [self.take_numbers(divider)]
        while self.is_taken(between):
            found.append(self.take_numbers(divider))
        return found

    def take_machine(self):
        """The letters, the steps and the ends of a machine."""
        letters = self.take_numeral()
        self.take(":")
        steps = self.take_lists(",", ";")
        self.take("/")
        return letters, steps, self.take_numbers(",")

    def take_guessed_steps(self):
        """For each state, for each letter, the list of the next states."""
        if self.sign_here() == "n":
            self.take_none()
            return []
        found = [self.take_lists("+", ",")]
        while self.is_taken(";"):
            found.append(self.take_lists("+", ","))
        return found

    def take_operand(self):
        """A word or a name, as patterns."""
        sign = self.sign_here()
        if sign != "" and sign in NAME_SIGNS:
            self.at += 1
            return "name", NAME_SIGNS.index(sign)
        return "word", self.take_word()

    def take_pattern(self):
        """A pattern, however deep."""
        # What stands ahead within each of the brackets that are not closed: the kind and the first part, or nothing.
        ahead = []
        while True:
            while self.is_taken("("):
                ahead.append(None)
            pattern = self.take_rounds(self.take_operand())
            while ahead and ahead[-1] is not None:
                self.take(")")
                kind, first = ahead.pop()
                pattern = self.take_rounds((kind, first, pattern))
            if not ahead:
                return pattern
            ahead[-1] = (KINDS_BY_DIVIDER[self.take(".|")], pattern)

    def take_rounds(self, pattern):
        """The pattern, gone round as often as told behind it."""
        while self.is_taken("*"):
            pattern = ("round", pattern)
        return pattern


def word_told(text):
    """The word of a readable text, of whatever letters and length."""
    pieces = Pieces(text)
    word = pieces.take_word()
    pieces.take_end()
    return word


def machine_told(text):
    """The letters, the steps and the ends that a readable text tells."""
    pieces = Pieces(text)
    told = pieces.take_machine()
    pieces.take_end()
    return told


def views_told(text):
    """The letters, the steps and the ends of each of the machines that a readable text tells."""
    pieces = Pieces(text)
    told = [pieces.take_machine()]
    while pieces.is_taken("&"):
        told.append(pieces.take_machine())
    pieces.take_end()
    return told


def pattern_told(text):
    """The pattern of a readable text, of whatever letters, depth and length."""
    pieces = Pieces(text)
    pattern = pieces.take_pattern()
    pieces.take_end()
    return pattern


def lots_told(text):
    """The lists of numbers that a readable text tells."""
    pieces = Pieces(text)
    lots = pieces.take_lists(",", ";")
    pieces.take_end()
    return lots


def guesser_told(text):
    """The letters, the steps, the begins and the ends that a readable text tells."""
    pieces = Pieces(text)
    letters = pieces.take_numeral()
    pieces.take(":")
    begins = pieces.take_numbers(",")
    pieces.take("/")
    steps = pieces.take_guessed_steps()
    pieces.take("/")
    ends = pieces.take_numbers(",")
    pieces.take_end()
    return letters, steps, begins, ends
