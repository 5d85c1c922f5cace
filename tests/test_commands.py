"""[98] the parts of commands, and which strings are commands by their words alone."""

import unittest

from helpers import JUNK
from widefills.commands import is_command, is_deed, is_name

# For each command, some that are right.
DEEDS = """machine m 2:1,0;0,1/0
machine m12345a7 9:-/999999
pattern p ((X.ab)|-*)
pattern p X*********************
filling f 0,1;-
filling f 99;99,99;-;1;2;3
guesser g 2:0/0+1,-;-,1/1
guesser g 1:-/none/-
words n 2 a,-,ab
words n 99 abc
words n 0 a,b,c,-,a,b,c,-
views v m
views v m,n
views v m,m,m
joined n m m
met n m o
without n m o
behind n m o
rounds n m
root n m
make n m p f
answer n m v
tells n g
all g m
part g m -
part g m 0
part g m 3,1,99,3
use h g
row q p p
either q p r
star q p
more m a,-
less m -
grow f 0 0
shrink f 99 99
copy a b
drop a
claim k within m p f
claim k outside m p f
claim k alike 2 p q
claim k unlike 99 p q
claim k right m 1 p f
claim k wrong m 10 p f
claim k made m p
claim k unmade m p
claim k told m g
claim k mistold m g
claim k exact m v
claim k inexact m v
forget k""".split("\n")
OTHERS = """undo
redo
state k
states
claimed k
names
show m
same m n
lets m ab
lets m -
inside m n
round m
right m p f
made m p
sure m v ab
parting m n
first m
lost m v
classes m
pairs m
fewest m
fill m 1 p""".split("\n")
NAMES = ["a", "z", "a1", "abcdefgh", "a2345678", "made", "undo", "x0"]
NO_NAMES = JUNK + ("", "A", "1a", "0", "abcdefghi", "a-b", "a_b", "a b", " a", "a ", "aB", "a\n", "a,b", "-", [], ["a"], ("a",))


class Names(unittest.TestCase):

    def test_names(self):
        for name in NAMES:
            self.assertIs(is_name(name), True)
            self.assertIs(is_name(value=name), True)
        for value in NO_NAMES:
            if value not in ("a", "b"):
                self.assertIs(is_name(value), False, value)

    def test_names_in_commands(self):
        for name in NAMES:
            for command in (f"drop {name}", f"star {name} {name}", f"views v {name},m", f"claim {name} made {name} p",
                            f"forget {name}", f"fill {name} 1 {name}", f"machine {name} 1:0/0"):
                self.assertIs(is_command(command), True, command)
        for name in [value for value in NO_NAMES if isinstance(value, str)]:
            self.assertIs(is_command(f"views v m,{name}"), name == "a,b")
            for command in (f"drop {name}", f"star {name} p", f"star p {name}", f"forget {name}",
                            f"claim {name} made m p", f"claim k made m {name}", f"machine {name} 1:0/0",
                            f"state {name}", f"same a {name}"):
                self.assertIs(is_command(command), False, command)


class Commands(unittest.TestCase):

    def test_all(self):
        for command in DEEDS:
            self.assertIs(is_command(command), True, command)
            self.assertIs(is_deed(command), True, command)
            self.assertIs(is_deed(value=command), True)
        for command in OTHERS:
            self.assertIs(is_command(value=command), True, command)
            self.assertIs(is_deed(command), False, command)

    def test_any_value(self):
        for value in JUNK + ("", " ", "claim", 0, [], ["undo"], ("undo",), "\n", "undo\n", "help", "Undo", "UNDO", "-"):
            self.assertIs(is_command(value), False, value)
            self.assertIs(is_deed(value), False, value)

    def test_blanks(self):
        for command in DEEDS + OTHERS:
            for at in [0, len(command)] + [at for at, sign in enumerate(command) if sign == " "]:
                self.assertIs(is_command(command[:at] + " " + command[at:]), False, command)
                self.assertIs(is_deed(command[:at] + " " + command[at:]), False)
            for at in [at for at, sign in enumerate(command) if sign == " "]:
                for sign in ("", ",", "\n", "  "):
                    self.assertIs(is_command(command[:at] + sign + command[at + 1:]), False, command)

    def test_parts(self):
        for command in DEEDS + OTHERS:
            words = command.split(" ")
            for more in ("m", "1", "-", "a,b"):
                self.assertIs(is_command(command + " " + more), False, command)
            if len(words) > 1:
                self.assertIs(is_command(" ".join(words[:-1])), False, command)
            for at in range(len(words)):
                for wrong in ("", "A", "m,", "?", "1 "):
                    changed = " ".join(words[:at] + [wrong] + words[at + 1:])
                    self.assertIs(is_command(changed), False, changed)
                left = " ".join(words[:at] + words[at + 1:])
                if words[0] != "claim" or at > 0:
                    self.assertIs(is_command(left), False, left)

    def test_counts(self):
        for count in ("0", "1", "9", "10", "99"):
            for command in (f"words n {count} a", f"grow f {count} 0", f"grow f 0 {count}", f"part g m {count}",
                            f"claim k alike {count} p q", f"claim k right m {count} p f", f"fill m {count} p"):
                self.assertIs(is_command(command), True, command)
        for count in ("", "-", "00", "01", "100", "010", "-1", "+1", "1.", "a", "1,1", " 1"):
            for command in (f"words n {count} a", f"grow f {count} 0", f"grow f 0 {count}", f"shrink f {count} 1",
                            f"claim k alike {count} p q", f"claim k right m {count} p f", f"fill m {count} p"):
                self.assertIs(is_command(command), False, command)
        for places in ("-", "0", "31,0", "1,1", ",".join(map(str, range(40)))):
            self.assertIs(is_command(f"part g m {places}"), True)
        for places in ("", ",", "1,", ",1", "-,1", "1,-", "100", "0,00", "--"):
            self.assertIs(is_command(f"part g m {places}"), False)

    def test_texts_of_120_characters(self):
        for kind, text in (("machine", "12:" + ";".join(["0"] * 58) + "/0"), ("pattern", "a" * 120),
                           ("pattern", "X" + "*" * 119), ("pattern", "((X.Y)|" + "Z" + "*" * 111 + ")"),
                           ("filling", ",".join(["10"] * 39 + ["100"])), ("guesser", "12:-/" + ";".join(["1"] * 57) + "/1")):
            self.assertEqual(len(text), 120)
            self.assertIs(is_command(f"{kind} n {text}"), True)
            longer = text[:-1] + {"machine": "10", "pattern": text[-1] * 2 if text[-1] != ")" else "*)",
                                  "filling": "10", "guesser": "10"}[kind]
            self.assertEqual(len(longer), 121)
            self.assertIs(is_command(f"{kind} n {longer}"), False)
            self.assertIs(is_command(f"{kind} n {longer.replace('10', '1', 1)}"), "10" in longer)
        self.assertIs(is_command("machine n 1:" + ";".join(["0"] * 59) + "/0"), False)
        self.assertIs(is_command("machine n 1:" + ";".join(["0"] * 58) + "/0"), True)
        for text in ("a" * 120, "c" * 61):
            self.assertIs(is_command(f"lets m {text}"), True)
            self.assertIs(is_command(f"more m {text},{text}"), True)
        self.assertIs(is_command("lets m " + "a" * 121), False)
        self.assertIs(is_command("sure m v " + "a" * 121), False)
        self.assertIs(is_command("more m a," + "a" * 121), False)

    def test_texts_that_are_readable(self):
        for text in ("", "2:1,0;0,1", "2:1,0;0,1/0/", "2:1, 0;0,1/0", "2:1,0;01,1/0", "1234567:0/0", "?"):
            self.assertIs(is_command(f"machine m {text}"), False, text)
        for text in ("0:0/0", "4:-/-", "1:5/5", "2:0/0", "1:" + "0;" * 20 + "0/0"):
            self.assertIs(is_command(f"machine m {text}"), True, text)
        for text in ("", "(X)", "x", "X.Y", "(X.Y", "(X. Y)", "d", "*"):
            self.assertIs(is_command(f"pattern p {text}"), False, text)
        for text in ("", ";", "0;", "0,;1", "0; 1", "a", "0,-"):
            self.assertIs(is_command(f"filling f {text}"), False, text)
        for text in ("", "1:-/-/none", "1:-/non/-", "1:0/0", "1:0/0/0/0", "1:0/0,+1/0"):
            self.assertIs(is_command(f"guesser g {text}"), False, text)

    def test_words_and_machines(self):
        for words in ("-", "a", "-,-", "a,b,c,-,ab,ba,cc,a"):
            for command in (f"words n 2 {words}", f"more m {words}", f"less m {words}"):
                self.assertIs(is_command(command), True)
        for words in ("", ",", "a,", ",a", "a,,b", "d", "a,d", "A", "a,b,c,-,ab,ba,cc,a,b", "a-", "--"):
            for command in (f"words n 2 {words}", f"more m {words}", f"less m {words}"):
                self.assertIs(is_command(command), False, command)
        for word in ("", "a,b", "d", "a-", "ab-"):
            self.assertIs(is_command(f"lets m {word}"), False)
            self.assertIs(is_command(f"sure m v {word}"), False)
        for machines in ("", ",", "m,", ",m", "m,,n", "m,n,o,p", "M", "m,1"):
            self.assertIs(is_command(f"views v {machines}"), False)

    def test_claims_have_their_words(self):
        for word in ("", "Within", "true", "claim", "forget", "rights", "all", "alike2"):
            self.assertIs(is_command(f"claim k {word} m p f"), False)
            self.assertIs(is_command(f"claim k {word} m p"), False)
        for command in ("claim", "claim k", "claim k made", "claim made m p", "claim k within m p", "claim k made m p f",
                        "claim k exact m", "claim k right m p f", "claim k alike p q", "within m p f", "claim k told g"):
            self.assertIs(is_command(command), False, command)
        # Some words are of claims and of other commands, too.
        self.assertIs(is_deed("made m p"), False)
        self.assertIs(is_deed("claim right right m 1 p f"), True)


if __name__ == "__main__":
    unittest.main()
