"""[92], [93] readable texts, and the wrong positions of others."""

import re
import unittest
from itertools import product as all_of
from random import Random

from by_hand import X, Y, chance_pattern, either, row, star, word
from helpers import JUNK, chain, chance_machine, stopped, wrongs
from test_guessers import CASES, PICK
from test_machines import EVEN
from test_middles import EVENS
from test_tables import BOTH, WRONG_TABLES
from test_words import WRONG_LETTERS
from widefills.errors import InvalidLetters, InvalidTable, InvalidText
from widefills.guessers import Guesser
from widefills.machines import Machine
from widefills.readers import (parse_guesser, parse_lots, parse_machine, parse_pattern, parse_views, parse_word)
from widefills.texts import guesser_text, machine_text, pattern_text, views_text

NO_STRINGS = tuple(value for value in JUNK if not isinstance(value, str)) + (0, 1, [], ["a"], ("a",), EVEN, PICK)

# Readable texts by hand, told by regular expressions; for patterns see below.
NUMERAL = "(?:0|[1-9][0-9]{0,5})"


def listed(one, between):
    return f"(?: *{one} *(?:{between} *{one} *)*)"


def lists(divider):
    return f"(?: *- *|{listed(NUMERAL, divider)})"


MACHINE = f"(?: *{NUMERAL} *:{listed(lists(','), ';')}/{lists(',')})"
ROW = listed(lists(r"\+"), ",")
GUESSER = f"(?: *{NUMERAL} *:{lists(',')}/(?: *none *|{listed(ROW, ';')})/{lists(',')})"
READABLE = {"word": "(?: *(?:-|[abc]+) *)", "machine": MACHINE, "views": listed(MACHINE, "&"),
            "lots": listed(lists(","), ";"), "guesser": GUESSER}
# What can lead each beginning of a readable text on to one.
LEADS = {
    "word": ["", "-"], "lots": ["", "0"],
    "machine": ["", "0", "/0", "0/0", ":0/0", "0:0/0"],
    "guesser": ["", "0", "/0", "0/0", "/none/0", "none/0", "one/0", "ne/0", "e/0", "0/0/0", "/0/0", ":0/0/0", "0:0/0/0"],
}
LEADS["views"] = LEADS["machine"]
READERS = {
    "word": lambda text: parse_word(3, text), "machine": parse_machine, "views": parse_views,
    "lots": lambda text: parse_lots(BOTH, text), "guesser": parse_guesser,
    "pattern": lambda text: parse_pattern(3, text),
}


def is_readable_pattern(text):
    """Words, names and what is put together of them are taken for one P, as long as there are any."""
    text = re.sub("[XYZ-]", "P", re.sub("[abc]+", "W", text.replace("P", "?").replace("W", "?")))
    text = re.sub(" ", "", re.sub("W", "P", text))
    before = None
    while before != text:
        before, text = text, re.sub(r"\(P[.|]P\)|P\*", "P", text)
    return text == "P"


def is_readable(kind, text):
    if kind == "pattern":
        return is_readable_pattern(text)
    return re.fullmatch(READABLE[kind], text) is not None


def can_be_led_on(kind, text):
    if kind != "pattern":
        return any(is_readable(kind, text + lead) for lead in LEADS[kind])
    deep = max(0, text.count("(") - text.count(")"))
    return any(is_readable_pattern(text + first + "".join(ends))
               for first in ("", "X", ".X", "|X") for ends in all_of([")", ".X)"], repeat=deep))


def position_by_hand(kind, text):
    for at in range(len(text)):
        if not can_be_led_on(kind, text[:at + 1]):
            return at
    return len(text)


def written():
    """Readable texts of each kind, some with spaces, lists in other sequences, numbers of more figures."""
    machines = [machine_text(chance_machine(seed, 1 + seed % 3, 1 + seed % 4)) for seed in range(8)]
    patterns = [pattern_text(3, chance_pattern(seed, 3, 3, 1 + seed % 8)) for seed in range(30)]
    return {
        "word": ["-", "a", "abc", " cab ", "b" * 7],
        "machine": machines + ["2 : 1,0 ; 0 , 1/0", "1:0/-", " 3:-/- ", "12:345678,0;9/10,2,0"],
        "views": [" & ".join(machines[:2]), machines[0] + "&" + machines[3], "1:0/0", "1:0/0&2:0,0/- & 7 : - / 1"],
        "lots": ["-", "0", "1,0", "0;-; 2,3", " 10 , 4;0", "3;1;2;1", "123456,7"],
        "guesser": [guesser_text(Guesser(*parts)) for parts in CASES[:10]] + [" 1:-/none / -", "2:1,0/0 + 1,-;-,1/1"],
        "pattern": [text for text in patterns if len(text) <= 24 and text.count("(") <= 4] + [
            "( X . a)", "(-|Y*)*", "abc", " X * *", "((a.b).(c|Z))"],
    }


SIGNS = {"word": "abcd- A", "machine": "019-,;:/ x", "views": "01-,;:/& ", "lots": "01-,; a", "guesser": "01-+,;:/ none",
         "pattern": "abXY-().|* d1"}
WRITTEN = written()


def bent():
    """Texts of each kind in which a sign is left out, put in, exchanged; that are cut off; two joined; two blanks."""
    chance = Random(11)
    found = []
    for kind, texts in WRITTEN.items():
        changed = {"", " ", "  "}
        for text in texts:
            for at in range(len(text) + 1):
                sign = chance.choice(SIGNS[kind])
                changed |= {text[:at] + text[at + 1:], text[:at] + sign + text[at:], text[:at] + sign + text[at + 1:],
                            text[:at], text[:at] + " " + text[at:]}
            changed |= {text + chance.choice(texts), text + " " + text, text + "\n", "?" + text}
        found += [(kind, text) for text in sorted(changed)]
    return found


BENT = bent()


def read(kind, text):
    """What is read, ("wrong", position) instead of an error."""
    try:
        return READERS[kind](text)
    except InvalidText as error:
        return "wrong", error.position


class Readable(unittest.TestCase):

    def test_written_ones(self):
        for kind, texts in WRITTEN.items():
            for text in texts:
                self.assertTrue(is_readable(kind, text), (kind, text))
                told = read(kind, text)
                if isinstance(told, tuple) and told[0] == "wrong":
                    self.assertIsNone(told[1], (kind, text))

    def test_blanks_between_pieces(self):
        for seed in range(40):
            chance = Random(seed)

            def spread(text):
                pieces = re.findall("none|[0-9]+|[abc]+|[^ ]", text)
                return "".join(" " * chance.randrange(3) + piece for piece in pieces) + " " * chance.randrange(2)

            machine = chance_machine(seed, 1 + seed % 3, 1 + seed % 12)
            self.assertEqual(parse_machine(spread(machine_text(machine))), machine)
            guesser = Guesser(*CASES[seed])
            self.assertEqual(parse_guesser(spread(guesser_text(guesser))), guesser)
            pattern = chance_pattern(seed, 2, 3, 1 + seed % 8)
            self.assertEqual(parse_pattern(2, spread(pattern_text(2, pattern))), pattern)
            self.assertEqual(parse_views(spread(views_text([machine, machine]))), [machine, machine])
            self.assertEqual(parse_lots(BOTH, spread("4,2,3; -;0")), [[2, 3, 4], [], [0]])
            self.assertEqual(parse_word(3, spread("cab")), "cab")

    def test_no_blanks(self):
        for seed in range(20):
            machine = chance_machine(seed, 2, 1 + seed % 12)
            self.assertEqual(parse_machine(machine_text(machine).replace(" ", "")), machine)
        self.assertEqual(guesser_text(parse_guesser("1:0/1+0;-/1")), "1: 0 / 0+1; - / 1")

    def test_lists_in_any_sequence(self):
        self.assertEqual(parse_machine("1: 1; 2; 2 / 2,0"), Machine(1, [[1], [2], [2]], [0, 2]))
        self.assertEqual(parse_lots(EVENS, "1,0"), [[0, 1]])
        self.assertEqual(parse_guesser("1: 1,0 / 1+0; - / 1,0"), Guesser(1, [[[0, 1]], [[]]], [0, 1], [0, 1]))
        # Of the next states of a machine's state the sequence tells the letters.
        self.assertEqual(parse_machine("2: 1,0; 0,1 / 0"), EVEN)

    def test_patterns(self):
        for text, pattern in (("X", X), ("( Y | a* )", either(Y, star(word("a")))), ("X**", star(star(X))),
                              ("(a.b)*", star(row(word("a"), word("b")))), ("-", word("")), ("ab", word("ab")),
                              ("((X.Y)|(Y.X))", either(row(X, Y), row(Y, X)))):
            self.assertEqual(parse_pattern(2, text), pattern)

    def test_kinds_of_values(self):
        lots = parse_lots(text="1,0; -", table=EVENS)
        self.assertEqual([type(lots)] + [type(lot) for lot in lots], [list] * 3)
        views = parse_views(text="1:0/0&1:0/-")
        self.assertIs(type(views), list)
        self.assertEqual(parse_word(text=" - ", letters=1), "")
        self.assertEqual(parse_machine(text="2:1,0;0,1/0"), EVEN)
        self.assertEqual(parse_pattern(text="X", letters=1), X)
        self.assertEqual(parse_guesser(text="2: 0 / 0+1,0; -,-; 2,2 / 1"), PICK)


class WrongPositions(unittest.TestCase):

    def test_by_hand(self):
        self.assertGreater(len(BENT), 2000)
        wrong = []
        for kind, text in BENT:
            told = read(kind, text)
            if is_readable(kind, text):
                if isinstance(told, tuple) and told[0] == "wrong":
                    self.assertIsNone(told[1], (kind, text))
            else:
                self.assertEqual(told, ("wrong", position_by_hand(kind, text)), (kind, text))
                wrong.append(told[1] == len(text))
        self.assertGreater(min(wrong.count(True), wrong.count(False)), 200)

    def test_empty_text(self):
        for kind in READERS:
            self.assertEqual(read(kind, ""), ("wrong", 0))
            self.assertEqual(read(kind, "   "), ("wrong", 3))

    def test_numerals(self):
        for text, position in (("1234567: 0 / 0", 6), ("01: 0 / 0", 1), ("1: 00 / 0", 4), ("1: 0 / 01", 8),
                               ("1: 0 / 0 0", 9), ("1: 0 / 1234567", 13), ("1 2: 0 / 0", 2), ("1: 0 / 0,", 9),
                               ("1:", 2), ("1: 0 0 / 0", 5), ("1: 0 / -0", 8), ("1: 0 / 0-", 8), ("-: 0 / 0", 0)):
            self.assertEqual(read("machine", text), ("wrong", position), text)
        self.assertEqual(read("machine", "123456: 0 / 0"), ("wrong", None))
        self.assertEqual(read("lots", "1234567"), ("wrong", 6))
        self.assertEqual(read("lots", "0,-"), ("wrong", 2))

    def test_blanks_within_pieces(self):
        for kind, text, position in (("guesser", "1: - / no ne / -", 9), ("guesser", "1: - / non", 10),
                                     ("guesser", "1: - / nonee / -", 11), ("word", "a b", 2), ("pattern", "(a b.X)", 3),
                                     ("lots", "1 0", 2), ("pattern", "X Y", 2), ("word", "- -", 2)):
            self.assertEqual(read(kind, text), ("wrong", position))

    def test_line_feeds(self):
        for kind, text, position in (("word", "a\n", 1), ("machine", "1:\n0 / 0", 2), ("pattern", "\nX", 0)):
            self.assertEqual(read(kind, text), ("wrong", position))

    def test_deep_ones(self):
        for text, position in (("(" * 4000, 4000), ("(" * 3000 + ")", 3000), ("X" + "*" * 3999, None),
                               ("(" * 900 + "X" + ".X)" * 900, None), ("(" * 900 + "X" + ".X)" * 901, 900 + 1 + 2700),
                               ("(X." * 900 + "X" + ")" * 900, None)):
            self.assertEqual(read("pattern", text), ("wrong", position))


class NothingTold(unittest.TestCase):

    def test_no_strings(self):
        for function, ahead in ((parse_word, [2]), (parse_machine, []), (parse_pattern, [2]), (parse_lots, [EVENS]),
                                (parse_guesser, []), (parse_views, [])):
            for value in NO_STRINGS:
                self.assertIsNone(stopped(self, InvalidText, function, *ahead, value).position)

    def test_no_word(self):
        for letters, text in ((1, "b"), (2, "abc"), (3, "a" * 61), (1, " c ")):
            self.assertIsNone(stopped(self, InvalidText, parse_word, letters, text).position)
        self.assertEqual(parse_word(3, "a" * 60), "a" * 60)

    def test_no_machine(self):
        for text in ("0: 0 / 0", "4: 0,0,0,0 / 0", "2: 0 / 0", "1: 0,0 / 0", "1: 1 / 0", "1: 0 / 1", "1: 0 / 0,0",
                     "1: - / 0", "2: 0,0; 0 / 0", "1: " + "0; " * 12 + "0 / 0", "999999: 0 / 0"):
            self.assertIsNone(stopped(self, InvalidText, parse_machine, text).position, text)
        self.assertEqual(parse_machine(machine_text(chain(12))), chain(12))

    def test_no_pattern(self):
        for letters, text in ((1, "b"), (2, "(X.c)"), (3, "a" * 61), (3, "X" + "*" * 9), (3, "(X.((((((((a*)" + ")")):
            told = stopped(self, InvalidText, parse_pattern, letters, text).position
            self.assertEqual(told, None if is_readable_pattern(text) else position_by_hand("pattern", text), text)
        self.assertEqual(parse_pattern(1, "X" + "*" * 8)[0], "round")
        wide = "X"
        for _ in range(4):
            wide = f"({wide}.{wide})"
        # 31 parts.
        self.assertIsNone(stopped(self, InvalidText, parse_pattern, 1, wide).position)

    def test_no_lots(self):
        for text in ("2", "0,0", "0; 1; 0; 1", "999999", "0; 1,2"):
            self.assertIsNone(stopped(self, InvalidText, parse_lots, EVENS, text).position)

    def test_no_guesser(self):
        for text in ("0: - / none / -", "4: - / none / -", "1: 0 / none / -", "1: - / none / 0", "1: 0 / 1 / 0",
                     "1: 0 / 0+0 / 0", "2: 0 / 0 / 0", "1: 0,0 / 0 / 0", "1: 0 / 0,0 / 0", "1: 0 / 0 / 1",
                     "1: - / " + "; ".join(["-"] * 41) + " / -"):
            self.assertIsNone(stopped(self, InvalidText, parse_guesser, text).position, text)
        self.assertEqual(parse_guesser("1: - / " + "; ".join(["-"] * 40) + " / -").states, 40)

    def test_no_views(self):
        for text in ("1:0/0&2:0,0/0", "1:0/0&1:1/0", "1:0/0&1:0/0&1:0/0&1:0/0", "0:-/-"):
            self.assertIsNone(stopped(self, InvalidText, parse_views, text).position)
        self.assertEqual(len(parse_views("1:0/0&1:0/-&1:0/0")), 3)


class Wrong(unittest.TestCase):

    def test_ahead_of_the_text(self):
        wrongs(self, parse_word, {"letters": 2, "text": "a"}, {"letters": WRONG_LETTERS})
        wrongs(self, parse_pattern, {"letters": 2, "text": "a"}, {"letters": WRONG_LETTERS})
        wrongs(self, parse_lots, {"table": EVENS, "text": "-"}, {"table": WRONG_TABLES})
        for value in ("?", None):
            stopped(self, InvalidLetters, parse_word, 0, value)
            stopped(self, InvalidLetters, parse_pattern, 4, value)
            stopped(self, InvalidTable, parse_lots, EVEN, value)


if __name__ == "__main__":
    unittest.main()
