"""[95], [97], [98] what each command keeps and answers, and how it is refused."""

import unittest

from by_hand import X, Y, either, row, star, word
from helpers import chain, stopped
from test_commands import DEEDS as DEED_LINES, OTHERS as OTHER_LINES
from test_guessers import PICK
from test_machines import EVEN
from test_middles import EVENS
from test_universals import TWO
from test_views import B, ODD
from widefills.answers import answer
from widefills.desk import Desk
from widefills.errors import (InvalidBegins, InvalidClaim, InvalidEnds, InvalidFilling, InvalidLetters, InvalidMany,
                              InvalidPattern, InvalidPlaces, InvalidPosition, InvalidSayings, InvalidSteps,
                              InvalidViews, InvalidWord, InvalidWords, LabelTaken, NameTaken, NoneThere, NothingToRedo,
                              NothingToUndo, TooMany, UnknownLabel, UnknownName, UnlikeLetters)
from widefills.guessers import Guesser, of_use, tells
from widefills.lots import lot_machine
from widefills.machines import Machine
from widefills.makings import behind, joined, met, of_words, rounds, without
from widefills.patterns import made_lot
from widefills.roots import root
from widefills.tables import Table
from widefills.texts import guesser_text, machine_text, pattern_text, views_text
from widefills.universals import part, universal

BASE = ["machine m 2:1,0;0,1/0", "machine o 2:1,0;0,1/1", "words b 2 b", "pattern p (X.X)", "pattern q (X|a)",
        "filling f 1", "filling h 0,1;-", "guesser g 2:0/1,0;0,1/0", "guesser w 2:0/0+1,0;-,-;2,2/1", "views v o,b"]
# What each of the deeds with a new name makes of these.
MADE = {
    "machine n 1:1;0/0": Machine(1, [[1], [0]], [0]), "machine n 2:2,0;0,3;3,2;0,1/1,0": Machine(
        2, [[2, 0], [0, 3], [3, 2], [0, 1]], [0, 1]),
    "pattern n ((X.ab)|-*)": either(row(X, word("ab")), star(word(""))), "pattern n c": word("c"),
    "filling n 1,0;-": [[1, 0], []], "filling n 99,99;0;-;7": [[99, 99], [0], [], [7]],
    "filling n 5,123456": [[5, 123456]], "guesser n 1:-/none/-": Guesser(1, [], [], []),
    "guesser n 2:1/1+0,-;-,1/0": Guesser(2, [[[0, 1], []], [[], [1]]], [1], [0]),
    "words n 2 a,-,ab": of_words(2, ["a", "", "ab"]), "words n 3 c": of_words(3, ["c"]),
    "words n 1 -": of_words(1, [""]), "views n m": [EVEN], "views n m,o,b": [EVEN, ODD, B], "views n m,m": [EVEN, EVEN],
    "joined n m o": joined(EVEN, ODD), "joined n b b": B, "met n m b": met(EVEN, B), "without n m b": without(EVEN, B),
    "without n b m": without(B, EVEN), "behind n o b": behind(ODD, B), "behind n b o": behind(B, ODD),
    "rounds n b": rounds(B), "root n m": root(EVEN),
    "make n m p f": lot_machine(EVENS, made_lot(EVENS, row(X, X), [[1]])),
    "make n o q h": lot_machine(Table([ODD]), made_lot(Table([ODD]), either(X, word("a")), [[0, 1], []])),
    "answer n m v": answer(EVEN, [ODD, B]), "tells n g": EVEN, "tells n w": tells(PICK), "all n m": universal(EVENS, 0),
    "part n m 3,1": part(EVENS, 0, [1, 3]), "part n m -": part(EVENS, 0, []), "part n m 2": part(EVENS, 0, [2]),
    "use n w": of_use(PICK), "use n g": TWO, "row n p q": row(row(X, X), either(X, word("a"))),
    "row n q p": row(either(X, word("a")), row(X, X)), "either n p q": either(row(X, X), either(X, word("a"))),
    "star n p": star(row(X, X)), "copy n m": EVEN, "copy n p": row(X, X), "copy n f": [[1]], "copy n g": TWO,
    "copy n v": [ODD, B],
}


def based(*commands):
    desk = Desk()
    desk.do_all(*BASE, *commands)
    return desk


def picture(desk):
    """All that can be seen of a desk, also what undo and redo bring back."""
    def kept(one):
        return ([(name, one[name]) for name in one.names], [(label, one.do("claimed " + label)) for label in one.labels],
                one.do("states"), one.do("names"), len(one), one.lines())

    seen = [kept(desk)]
    for command, most in (("undo", len(desk)), ("redo", 400)):
        one = desk.copy()
        for _ in range(min(most, 15)):
            try:
                seen.append(one.do(command))
            except NothingToRedo:
                break
            seen.append(kept(one))
    return seen


def refused(test, desk, error, command, value=None, attribute="value"):
    """The command raises just this error, with this value, and changes nothing."""
    ahead = picture(desk)
    raised = stopped(test, error, desk.do, command)
    if value is not None:
        test.assertEqual(getattr(raised, attribute), value, command)
        test.assertIs(type(getattr(raised, attribute)), type(value))
    test.assertEqual(picture(desk), ahead, command)


class Made(unittest.TestCase):

    def test_all(self):
        for command, wanted in MADE.items():
            desk = based()
            self.assertEqual(desk.do(command), "-")
            self.assertEqual(desk["n"], wanted, command)
            self.assertIs(type(desk["n"]), type(wanted))
            self.assertEqual(desk.names, sorted([line.split(" ")[1] for line in BASE] + ["n"]))
            self.assertEqual(desk.lines(), BASE + [command])

    def test_kept_as_its_sort(self):
        for command, thing in MADE.items():
            desk = based(command)
            if isinstance(thing, Machine):
                wanted = machine_text(thing)
            elif isinstance(thing, Guesser):
                wanted = guesser_text(thing)
            elif isinstance(thing, tuple):
                wanted = pattern_text(3, thing)
            elif isinstance(thing[0], Machine):
                wanted = views_text(thing)
            else:
                wanted = "; ".join([",".join(map(str, lot)) or "-" for lot in thing])
            self.assertEqual(desk.do_all("show n", "same n n"), [wanted, "yes"], command)
            self.assertEqual(desk.do_all("copy x n", "drop n", "show x")[-1], wanted)

    def test_each_deed_is_there(self):
        words = {command.split(" ")[0] for command in MADE}
        others = {"more", "less", "grow", "shrink", "drop", "claim", "forget"}
        self.assertEqual(words | others, {command.split(" ")[0] for command in DEED_LINES})

    def test_names_stay(self):
        for command in MADE:
            desk = based()
            ahead = [desk[name] for name in desk.names]
            desk.do(command)
            self.assertEqual([desk[name] for name in desk.names if name != "n"], ahead)

    def test_new_name_is_taken(self):
        for command in MADE:
            words = command.split(" ")
            for taken in ("m", "p", "f", "g", "v"):
                refused(self, based(), NameTaken, " ".join([words[0], taken] + words[2:]), taken, "name")

    def test_names_of_other_sorts(self):
        sorts = {"m": "machine", "p": "pattern", "f": "filling", "g": "guesser", "v": "views"}
        for command in MADE:
            words = command.split(" ")
            if words[0] in ("machine", "pattern", "filling", "guesser", "words", "copy"):
                continue
            for at in range(2, len(words)):
                if words[0] == "part" and at == 3:
                    continue
                for wrong in ("none", *sorts):
                    names = {"m": "mob", "p": "pq", "f": "fh", "g": "gw", "v": "v"}
                    if wrong == "none" or words[at][0] not in names[wrong]:
                        refused(self, based(), UnknownName, " ".join(words[:at] + [wrong] + words[at + 1:]), wrong)
                        if words[0] == "views":
                            refused(self, based(), UnknownName, f"views n m,{wrong},x", wrong)

    def test_the_first_unknown_name(self):
        desk = based()
        for command, name in (("joined n x y", "x"), ("joined n m y", "y"), ("make n m x y", "x"), ("make n x p y", "x"),
                              ("views n x,y,z", "x"), ("views n m,y,z", "y"), ("answer n x y", "x"), ("row n x y", "x"),
                              ("copy n x", "x"), ("drop x", "x"), ("more x a", "x"), ("grow x 9 9", "x"),
                              ("joined m x y", None)):
            if name is None:
                refused(self, desk, NameTaken, command, "m", "name")
            else:
                refused(self, desk, UnknownName, command, name)


class Refused(unittest.TestCase):

    def test_machines(self):
        for command, error, value in (
                ("machine n 0:0/0", InvalidLetters, 0), ("machine n 4:9/9", InvalidLetters, 4),
                ("machine n 2:0/9", InvalidSteps, [[0]]), ("machine n 2:1,0/-", InvalidSteps, [[1, 0]]),
                ("machine n 1:-/-", InvalidSteps, [[]]), ("machine n 1:0/1", InvalidEnds, [1]),
                ("machine n 1:0;1/1,0,1", InvalidEnds, [1, 0, 1]),
                ("machine n 1:" + "0;" * 12 + "0/9", InvalidSteps, [[0]] * 13),
                ("guesser n 0:5/5/5", InvalidLetters, 0), ("guesser n 2:5/0/5", InvalidSteps, [[[0]]]),
                ("guesser n 1:1,0/1+1/5", InvalidSteps, [[[1, 1]]]), ("guesser n 1:1,0/0/5", InvalidBegins, [1, 0]),
                ("guesser n 1:0/0/0,0", InvalidEnds, [0, 0]), ("guesser n 1:-/none/0", InvalidEnds, [0])):
            refused(self, based(), error, command, value)

    def test_words(self):
        for command, error, value in (
                ("words n 0 a", InvalidLetters, 0), ("words n 4 a", InvalidLetters, 4),
                ("words n 99 c", InvalidLetters, 99), ("words n 1 -,b", InvalidWords, ["", "b"]),
                ("words n 2 a,c,b", InvalidWords, ["a", "c", "b"]), ("words n 1 " + "a" * 61, InvalidWords, ["a" * 61]),
                ("more m -,c", InvalidWords, ["", "c"]), ("less m c", InvalidWords, ["c"])):
            refused(self, based(), error, command, value)
        refused(self, based(), TooMany, "words n 1 " + "a" * 60, "states", "what")
        refused(self, based("words z 1 -"), TooMany, "more z " + "a" * 60, 60, "limit")

    def test_patterns(self):
        deep, many = "X" + "*" * 9, "X"
        for _ in range(4):
            many = f"({many}.{many})"
        pattern = X
        for _ in range(9):
            pattern = star(pattern)
        refused(self, based(), InvalidPattern, "pattern n " + deep, pattern)
        refused(self, based(), InvalidPattern, "pattern n " + many)
        refused(self, based(), InvalidPattern, "pattern n " + "a" * 61, word("a" * 61))
        refused(self, based(), InvalidPattern, "pattern n X" + "*" * 119)
        desk = based("pattern x X" + "*" * 8)
        refused(self, desk, InvalidPattern, "star n x", pattern)
        refused(self, desk, InvalidPattern, "row n x x", row(pattern[1], pattern[1]))
        refused(self, desk, InvalidPattern, "either n q x", either(either(X, word("a")), pattern[1]))
        desk.do("drop p")
        desk.do("pattern p " + many.replace(".", "|").replace("((((X|X)|(X|X))|((X|X)|(X|X)))|", "(X|"))
        self.assertEqual(desk.do("row n p q"), "-")
        refused(self, desk, InvalidPattern, "row z n n")

    def test_views(self):
        desk = based("words z 1 a")
        refused(self, desk, InvalidViews, "views n m,z,o", [EVEN, of_words(1, ["a"]), ODD])
        desk.do("views n z")
        desk.do("drop f")
        refused(self, desk, UnlikeLetters, "answer x m n")
        refused(self, desk, UnlikeLetters, "sure m n a")
        refused(self, desk, UnlikeLetters, "lost m n")

    def test_unlike_letters(self):
        desk = based("words z 1 a")
        for command in ("joined n m z", "met n z m", "without n m z", "behind n z m", "inside m z", "parting z m"):
            refused(self, desk, UnlikeLetters, command)

    def test_root(self):
        refused(self, based(), NoneThere, "root n o")
        refused(self, based(), NoneThere, "root n b")

    def test_make(self):
        refused(self, based("pattern z c"), InvalidPattern, "make n m z f", word("c"))
        refused(self, based("pattern z (X.Y)"), InvalidFilling, "make n m z f", [[1]])
        refused(self, based("filling z 2"), InvalidFilling, "make n m p z", [[2]])
        refused(self, based("filling z 0;-;-;-"), InvalidFilling, "make n m p z", [[0], [], [], []])
        refused(self, based("filling z 1,1"), InvalidFilling, "make n m p z", [[1, 1]])

    def test_part(self):
        refused(self, based(), InvalidPlaces, "part n m 3,4", [3, 4])
        refused(self, based(), InvalidPlaces, "part n m 1,1", [1, 1])

    def test_lots(self):
        for command, place in (("grow f 1 0", 1), ("shrink f 1 0", 1), ("grow h 2 0", 2), ("grow f 99 0", 99)):
            refused(self, based(), InvalidPosition, command, place)

    def test_too_many_of_the_functions(self):
        # 27 classes; 33 pairs.
        desk = based("machine z 3:1,0,2;1,2,0;2,1,1/0")
        self.assertGreater(len(desk.do("names")), 0)
        desk = based("machine z 1:1;2;3;4;5;6;7;8;9;10;4/0,2,3,4,7,10")
        refused(self, desk, TooMany, "all n z", "pairs", "what")
        refused(self, desk, TooMany, "part n z 99", 32, "limit")
        refused(self, desk, TooMany, "pairs z", 32, "limit")
        refused(self, desk, TooMany, "fewest z", 32, "limit")
        desk = based("machine z 2:1,1;2,0;3,2;0,3/0")
        refused(self, desk, TooMany, "fill z 2 p", "choices", "what")
        desk = based("machine z 2:1,2;2,0;3,1;0,4;4,0/0")
        for command in ("classes z", "pairs z", "fewest z", "fill z 9 p", "right z p f", "made z p", "all n z",
                        "part n z 0", "make n z p f", "claim k within z p f", "claim k right z 9 p f",
                        "claim k made z p", "claim k told z g"):
            refused(self, desk, TooMany, command, "classes", "what")

    def test_asked_ones(self):
        desk = based("pattern z c", "pattern y Y")
        for command, error, value in (
                ("lets m c", InvalidWord, "c"), ("lets m " + "a" * 61, InvalidWord, "a" * 61),
                ("sure m v c", InvalidWord, "c"), ("right m z f", InvalidPattern, word("c")),
                ("right m y f", InvalidFilling, [[1]]), ("made m z", InvalidPattern, word("c")),
                ("fill m 0 p", InvalidMany, 0), ("fill m 4 z", InvalidMany, 4), ("fill m 1 z", InvalidSayings, [(word("c"), 0)]),
                ("fill m 1 y", InvalidMany, 1), ("state k", UnknownLabel, "k"), ("claimed m", UnknownLabel, "m"),
                ("forget k", UnknownLabel, "k"), ("show n", UnknownName, "n"), ("same n m", UnknownName, "n"),
                ("same m n", UnknownName, "n"), ("same m p", UnknownName, "p"), ("same f v", UnknownName, "v"),
                ("lets p a", UnknownName, "p"), ("sure m f a", UnknownName, "f"), ("first g", UnknownName, "g")):
            refused(self, desk, error, command, value)


class Changed(unittest.TestCase):

    def test_more_and_less(self):
        desk = based()
        desk.do_all("more m a,ab", "less m -,bb", "more b -")
        wanted = without(joined(EVEN, of_words(2, ["a", "ab"])), of_words(2, ["", "bb"]))
        self.assertEqual(desk["m"], wanted)
        self.assertEqual(desk["b"], of_words(2, ["b", ""]))
        self.assertEqual(desk["v"], [ODD, B])
        self.assertEqual(len(desk.names), 10)

    def test_grow_and_shrink(self):
        desk = based("filling x 7,3;-")
        for command, wanted in (("grow x 0 5", [[7, 3, 5], []]), ("grow x 0 3", [[7, 3, 5], []]),
                                ("grow x 1 0", [[7, 3, 5], [0]]), ("shrink x 0 3", [[7, 5], [0]]),
                                ("shrink x 0 4", [[7, 5], [0]]), ("grow x 0 3", [[7, 5, 3], [0]]),
                                ("shrink x 1 0", [[7, 5, 3], []]), ("grow x 1 99", [[7, 5, 3], [99]])):
            self.assertEqual(desk.do(command), "-")
            self.assertEqual(desk["x"], wanted)
        self.assertEqual(desk.lines()[11:], ["grow x 0 5", "grow x 0 3", "grow x 1 0", "shrink x 0 3", "shrink x 0 4",
                                             "grow x 0 3", "shrink x 1 0", "grow x 1 99"])
        desk.do_all("drop x", "filling x 4,4,1", "shrink x 0 4")
        self.assertEqual(desk["x"], [[1]])

    def test_what_is_kept_hangs_on_no_other_names(self):
        desk = based("copy n f", "rounds z b")
        ahead = {name: desk[name] for name in ("v", "n", "z")}
        desk.do_all("more b -", "less o a", "grow f 0 0", "drop b", "drop o", "drop f")
        self.assertEqual({name: desk[name] for name in ("v", "n", "z")}, ahead)
        desk.do("grow n 0 5")
        self.assertEqual(desk["n"], [[1, 5]])
        desk.do("filling f 1")
        self.assertEqual(desk["f"], [[1]])

    def test_copy_and_drop(self):
        desk = based()
        desk.do("drop p")
        self.assertNotIn("p", desk)
        self.assertEqual(desk.do("pattern p Y"), "-")
        self.assertEqual(desk["p"], Y)
        refused(self, desk, UnknownName, "drop p2", "p2")


class Asked(unittest.TestCase):

    def test_each_command_is_there(self):
        told = {command.split(" ")[0] for command in self.answers()}
        self.assertEqual(told | {"undo", "redo", "state", "states", "claimed"},
                         {command.split(" ")[0] for command in OTHER_LINES})

    def answers(self):
        return {
            "names": "b f g h m o p q v w", "show m": "2: 1,0; 0,1 / 0", "show p": "(X.X)", "show q": "(X|a)",
            "show f": "1", "show h": "0,1; -", "show g": "2: 0 / 1,0; 0,1 / 0", "show w": "2: 0 / 0+1,0; -,-; 2,2 / 1",
            "show v": "2: 1,0; 0,1 / 1 & 2: 1,2; 1,1; 1,1 / 2", "same m m": "yes", "same m o": "no", "same p q": "no",
            "same f h": "no", "same v v": "yes", "same g w": "no", "same g g": "yes", "same h h": "yes",
            "lets m aba": "yes", "lets m ab": "no", "lets m -": "yes", "lets o -": "no", "inside b m": "yes",
            "inside m b": "no", "inside m m": "yes", "round m": "yes", "round o": "no", "right m p f": "yes",
            "right m p h": "no", "right m q f": "no", "made m p": "yes", "made o p": "no", "sure m v b": "yes",
            "sure m v a": "no", "sure m v -": "yes", "sure m v aab": "yes", "parting m o": "-", "parting m b": "-",
            "parting m m": "none", "parting o b": "a", "first m": "-", "first o": "a", "first b": "b",
            "lost m v": "none", "lost o v": "none", "lost b v": "none", "classes m": "-,a", "classes b": "-,a,b",
            "pairs m": "4", "pairs b": "4", "fewest m": "2", "fewest b": "2", "fill m 1 p": "0 1",
            "fill m 2 p": "0;0,1 1;0,1", "fill o 1 q": "1", "fill b 1 q": "none", "fill b 1 p": "-",
        }

    def test_answers(self):
        desk = based()
        for command, wanted in self.answers().items():
            self.assertEqual(desk.do(command), wanted, command)
        self.assertEqual(desk.lines(), BASE)

    def test_more_answers(self):
        desk = based("words n 2 -", "views x b")
        self.assertEqual(desk.do_all("fill n 1 p", "lost m x", "lost o x", "first n", "show x", "lost n x"),
                         ["0", "aa", "a", "-", "2: 1,2; 1,1; 1,1 / 2", "none"])
        desk = Desk()
        self.assertEqual(desk.do_all("names", "states"), ["-", "-"])
        desk.do_all("words e 1 -", "less e -", "filling f -", "pattern p -")
        self.assertEqual(desk.do_all("first e", "parting e e", "fewest e", "classes e", "show e", "show f", "show p"),
                         ["none", "none", "0", "-", "1: 0 / -", "-", "-"])
        # Nothing is right, as the empty word is made.
        self.assertEqual(desk.do_all("fill e 3 p", "pairs e"), ["none", "2"])
        # In the sequence in which they are kept.
        self.assertEqual(desk.do_all("filling h 3,1;0", "show h"), ["-", "3,1; 0"])

    def test_long_words(self):
        # Longer than the words that may be passed.
        desk = Desk()
        desk.do_all("machine x 1:1;2;3;4;5;6;7;0/1,2,3,4,5,6,7", "machine y 1:1;2;3;4;5;6;7;8;0/1,2,3,4,5,6,7,8")
        self.assertEqual(desk.do("parting x y"), "a" * 8)

    def test_nothing_is_changed(self):
        desk = based("claim k made m p", "drop q", "undo")
        ahead = picture(desk)
        for command in list(self.answers()) + ["state k", "states", "claimed k"]:
            if command not in ("names", "show q"):
                desk.do(command)
        self.assertEqual(picture(desk), ahead)
        self.assertEqual(desk.do("redo"), "drop q")

    def test_pairs_of_chains(self):
        desk = Desk()
        desk.do("machine c 1:1;2;3;3/3")
        self.assertEqual(desk["c"], chain(4))
        self.assertEqual(desk.do_all("pairs c", "fewest c", "classes c"), ["4", "4", "-,a,aa,aaa"])


class Claims(unittest.TestCase):

    NOTED = {
        "within m p f": "true", "outside m p f": "false", "within m q f": "false", "outside m q f": "true",
        "alike 1 p p": "true", "unlike 2 p q": "true", "alike 3 q p": "false", "right m 1 p f": "true",
        "wrong m 1 p f": "false", "right m 2 p h": "false", "wrong m 2 q h": "true", "made m p": "true",
        "unmade o p": "true", "made o p": "false", "told m g": "true", "mistold m w": "true", "told o g": "false",
        "exact m v": "true", "inexact m v": "false",
    }

    def test_states(self):
        for words, state in self.NOTED.items():
            desk = based()
            self.assertEqual(desk.do(f"claim k {words}"), f"k {state}")
            self.assertEqual(desk.do_all("state k", "states", "claimed k"), [state, f"k {state}", words])
            self.assertEqual(desk.labels, ["k"])
            self.assertEqual(desk.lines(), BASE + [f"claim k {words}"])

    def test_tuples(self):
        twice, pick = row(X, X), either(X, word("a"))
        for words, claim in (
                ("within m p f", ("within", EVENS, 0, twice, [[1]])), ("outside o q h", (
                    "outside", Table([ODD]), 0, pick, [[0, 1], []])),
                ("alike 1 p q", ("alike", 1, twice, pick)), ("right m 1 p f", ("right", EVENS, 1, [(twice, 0)], [[1]])),
                ("wrong m 2 p h", ("wrong", EVENS, 2, [(twice, 0)], [[0, 1], []])), ("made m q", ("made", EVENS, 0, pick)),
                ("told m w", ("told", EVENS, 0, PICK)), ("exact m v", ("exact", EVEN, [ODD, B]))):
            desk = based(f"claim k {words}")
            self.assertEqual(desk.claim_of("k"), claim)
            self.assertEqual([type(one) for one in desk.claim_of("k")], [type(one) for one in claim])

    def test_no_claims(self):
        twice = row(X, X)
        desk = based("drop w", "drop h", "pattern z c", "pattern y Y", "filling x 2")
        desk.do("guesser w 1:-/none/-")
        for words, claim in (
                ("within m z f", ("within", EVENS, 0, word("c"), [[1]])), ("within m y f", ("within", EVENS, 0, Y, [[1]])),
                ("outside m p x", ("outside", EVENS, 0, twice, [[2]])), ("alike 0 p q", ("alike", 0, twice, either(X, word("a")))),
                ("unlike 2 p z", ("unlike", 2, twice, word("c"))), ("right m 2 p f", ("right", EVENS, 2, [(twice, 0)], [[1]])),
                ("right m 0 p f", ("right", EVENS, 0, [(twice, 0)], [[1]])),
                ("wrong m 1 y f", ("wrong", EVENS, 1, [(Y, 0)], [[1]])), ("made m z", ("made", EVENS, 0, word("c"))),
                ("told m w", ("told", EVENS, 0, Guesser(1, [], [], [])))):
            refused(self, desk, InvalidClaim, f"claim k {words}", claim)
        desk.do_all("drop f", "words n 1 a")
        refused(self, desk, InvalidClaim, "claim k exact n v", ("exact", of_words(1, ["a"]), [ODD, B]))

    def test_sequence_of_errors(self):
        desk = based("claim k made m p")
        refused(self, desk, LabelTaken, "claim k made x y", "k", "label")
        refused(self, desk, LabelTaken, "claim k made m p", "k", "label")
        refused(self, desk, UnknownName, "claim l within x y z", "x")
        refused(self, desk, UnknownName, "claim l within m f p", "f")
        refused(self, desk, UnknownName, "claim l right m 9 p x", "x")
        refused(self, desk, UnknownName, "claim l exact v m", "v")
        desk.do("machine z 2:1,1;2,0;3,2;0,3/0")
        desk.do("pattern y (X.Y)")
        refused(self, desk, TooMany, "claim l made z y", "choices", "what")

    def test_a_label_may_be_a_name(self):
        desk = based("claim m made m p", "claim p told m g")
        self.assertEqual(desk.do("states"), "m true, p true")
        self.assertEqual(desk.do("drop p"), "m gone")
        self.assertEqual(desk.do("forget m"), "-")
        self.assertIn("m", desk)

    def test_forget(self):
        desk = based("claim k made m p", "claim l made o p")
        self.assertEqual(desk.do("forget k"), "-")
        self.assertEqual((desk.labels, desk.do("states")), (["l"], "l false"))
        refused(self, desk, UnknownLabel, "state k", "k")
        self.assertEqual(desk.do("claim k unmade m p"), "k false")


class States(unittest.TestCase):

    def test_true_false_gone_and_back(self):
        desk = based()
        told = desk.do_all("claim k within m p f", "claim l made m p", "grow f 0 0", "shrink f 0 1", "more m a", "less m a",
                           "drop p", "pattern p X", "drop f", "machine f 1:0/0", "drop f", "filling f 0")
        self.assertEqual(told, ["k true", "l true", "k false", "k true", "l false", "l true",
                                "k gone, l gone", "k true, l true", "k gone", "-", "-", "k true"])

    def test_sorted_changes(self):
        desk = based("claim z made m p", "claim a9 right m 1 p f", "claim a10 told m g", "claim c inexact o v",
                     "claim b exact m v")
        self.assertEqual(desk.do("states"), "a10 true, a9 true, b true, c false, z true")
        self.assertEqual(desk.do("drop m"), "a10 gone, a9 gone, b gone, z gone")
        self.assertEqual(desk.do("words m 2 b"), "a10 false, a9 false, b true, z false")
        self.assertEqual(desk.do("undo"), "words m 2 b")
        self.assertEqual(desk.do("states"), "a10 gone, a9 gone, b gone, c false, z gone")
        self.assertEqual(desk.do("undo"), "drop m")
        self.assertEqual(desk.do("states"), "a10 true, a9 true, b true, c false, z true")

    def test_gone_for_each_reason(self):
        desk = based("claim k made m p", "claim l alike 2 p q", "claim r right m 1 p f", "claim t told m g")
        for commands, changed in (
                (["drop p"], "k gone, l gone, r gone"),                                    # nothing is kept
                (["drop p", "filling p 0"], "-"),                                         # another sort
                (["drop m", "machine m 2:1,2;2,0;3,1;0,4;4,0/0"], "-"),                   # no table of the machine
                (["drop q", "pattern q c"], "-"),                                         # no claim
                (["drop f", "filling f 5"], "-"),
                (["drop m", "machine m 1:0/0"], "k true"),                                # no claims: fewer classes
                (["drop m", "drop p", "machine m 2:1,1;2,0;3,2;0,3/0", "pattern p (X.Y)"], "l false")):  # asks too much
            one = desk.copy()
            self.assertEqual(one.do_all(*commands)[-1], changed)
        one = desk.copy()
        one.do_all("drop m", "machine m 2:1,2;2,0;3,1;0,4;4,0/0")
        self.assertEqual(one.do("states"), "k gone, l false, r gone, t gone")
        self.assertIsNone(one.claim_of("k"))
        one = desk.copy()
        one.do_all("drop m", "machine m 1:0/0")
        self.assertEqual(one.do("states"), "k true, l false, r gone, t gone")
        one = desk.copy()
        one.do_all("drop m", "drop p", "machine m 2:1,1;2,0;3,2;0,3/0", "pattern p (X.Y)")
        self.assertEqual(one.do("states"), "k gone, l false, r gone, t false")

    def test_one_name_twice(self):
        desk = based("claim k alike 2 p p", "views x b", "claim l alike 1 q q")
        self.assertEqual(desk.do_all("drop p", "pattern p X", "drop q", "pattern q b", "drop q", "undo"),
                         ["k gone", "k true", "l gone", "-", "-", "drop q"])
        self.assertEqual(desk.do("states"), "k true, l gone")

    def test_noted_again(self):
        desk = based("claim k made m p", "forget k")
        self.assertEqual(desk.do("claim k made m p"), "k true")
        self.assertEqual(desk.do("claim l made o p"), "l false")


class UndoAndRedo(unittest.TestCase):

    def test_all_deeds_there_and_back(self):
        lines = BASE + ["claim k made m p", "grow f 0 0", "more m a", "drop q", "copy n v", "forget k", "less b b"]
        desk, seen = Desk(), []
        for line in lines:
            seen.append(picture(desk)[0])
            desk.do(line)
        seen.append(picture(desk)[0])
        for at in range(len(lines) - 1, -1, -1):
            self.assertEqual(desk.do("undo"), lines[at])
            self.assertEqual(picture(desk)[0], seen[at])
        refused(self, desk, NothingToUndo, "undo")
        for at, line in enumerate(lines):
            self.assertEqual(desk.do("redo"), line)
            self.assertEqual(picture(desk)[0], seen[at + 1])
        refused(self, desk, NothingToRedo, "redo")

    def test_a_deed_between(self):
        desk = based("drop p", "drop q")
        self.assertEqual(desk.do_all("undo", "undo", "redo"), ["drop q", "drop p", "drop p"])
        self.assertEqual(desk.do("drop f"), "-")
        refused(self, desk, NothingToRedo, "redo")
        self.assertEqual(desk.lines()[10:], ["drop p", "drop f"])
        self.assertIn("q", desk)

    def test_other_commands_between(self):
        desk = based("drop p", "undo", "names", "first m")
        refused(self, desk, UnknownName, "drop x", "x")
        self.assertEqual(desk.do("redo"), "drop p")

    def test_what_is_taken_back_is_no_deed(self):
        desk = based("undo", "undo")
        self.assertEqual((len(desk), desk.lines()), (8, BASE[:8]))
        self.assertNotIn("v", desk)
        self.assertEqual(desk.do("redo"), BASE[8])
        self.assertEqual(len(desk), 9)


class Bounds(unittest.TestCase):

    def test_twelve_names(self):
        desk = Desk()
        for at in range(12):
            self.assertEqual(desk.do(f"words n{at} 1 a"), "-")
        for command in ("words x 1 a", "copy x n1", "filling x -", "rounds x n3"):
            refused(self, desk, TooMany, command, "names", "what")
            refused(self, desk, TooMany, command, 12, "limit")
        # What else is wrong comes first.
        refused(self, desk, NameTaken, "words n1 1 a", "n1", "name")
        refused(self, desk, UnknownName, "copy x y", "y")
        refused(self, desk, InvalidLetters, "words x 5 a", 5)
        self.assertEqual(desk.do_all("more n1 aa", "drop n2", "words x 1 a"), ["-", "-", "-"])

    def test_twelve_labels(self):
        desk = based()
        for at in range(12):
            self.assertEqual(desk.do(f"claim k{at} made m p"), f"k{at} true")
        refused(self, desk, TooMany, "claim x made m p", "labels", "what")
        refused(self, desk, TooMany, "claim x made m p", 12, "limit")
        refused(self, desk, LabelTaken, "claim k3 made m p", "k3", "label")
        refused(self, desk, UnknownName, "claim x made m x", "x")
        refused(self, desk, InvalidClaim, "claim x right m 2 p f")
        self.assertEqual(desk.do("forget k3"), "-")
        self.assertEqual(desk.do("claim x made m p"), "x true")

    def test_300_deeds(self):
        desk = based()
        for _ in range(145):
            desk.do("grow f 0 0")
            desk.do("shrink f 0 0")
        self.assertEqual(len(desk), 300)
        for command in ("grow f 0 0", "claim k made m p", "words x 1 a", "drop m"):
            refused(self, desk, TooMany, command, "deeds", "what")
            refused(self, desk, TooMany, command, 300, "limit")
        refused(self, desk, UnknownName, "drop x", "x")
        refused(self, desk, UnknownLabel, "forget x", "x")
        self.assertEqual(desk.do_all("names", "undo", "redo", "undo")[1:], ["shrink f 0 0"] * 3)
        self.assertEqual(desk.do("claim k made m p"), "k true")
        self.assertEqual(len(desk), 300)
        self.assertEqual(Desk.again(desk.lines()).lines(), desk.lines())

    def test_names_ahead_of_deeds(self):
        desk = Desk()
        desk.do_all(*[f"words n{at} 1 a" for at in range(12)])
        for _ in range(288):
            desk.do("more n1 a")
        refused(self, desk, TooMany, "words x 1 a", "names", "what")
        refused(self, desk, TooMany, "more n1 a", "deeds", "what")


if __name__ == "__main__":
    unittest.main()
